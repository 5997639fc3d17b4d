import PyProof.Rows.All
import Wide.All
import OpenK.AllK
import Wide.FinOn
import HandS.ForMost
import KE.GoesMore
import KE.GoesEnum
import KE.KTupSum
import HandS.Evl
import HandS.TupAny
import HandS.Wide
import HandS.Style
import HandS.Property
import HandS.ClsMeth
import HandS.WideBits
import HandS.Steps
import HandS.Walk
import HandS.Strs
import HandS.SetFor
import HandS.IsInst
import KE.KLam
import HandS.Codes
import HandS.TryOnly
import HandS.Lambda
import HandS.Nested
import HandS.EndTab
import HandS.EndOwn
import HandS.ExcInit
import HandS.ExcOwn
import HandS.ExcField
import HandS.ExcIs
import HandS.WordsExc
import HandS.FStr
import KE.KSuper
import KE.KExcSuper
import KE.KExcIs
import HandS.TupMul
import HandS.Small
import HandS.Star
import KE.KOpsOwn
import HandS.RevRange
import HandS.Conv
import PySem.Challenge.RW_staleloaves_k09_whole_hidden_lives
set_option Elab.async false
set_option linter.all false
set_option maxRecDepth 100000
set_option maxHeartbeats 4000000
namespace Sw
open PySem PySem.Spec PyProof.Rows L2
/-! ### zip of a tuple, a tuple and a list; enumerate of a tuple -/
def Itz3 (K : PySem.W.Frag) (a b c : Addr) : It :=
  ⟨fun i H => ∃ (xs ys zs : List V) (x y z : V), SqT K H a xs ∧ SqT K H b ys ∧ SqL K H c zs ∧ xs[i]? = some x ∧ ys[i]? = some y ∧ zs[i]? = some z,
    fun i H v H' => ∃ T x y z, v = .ref T ∧ H T = none ∧ H' = upd H T (.tup [x, y, z]) ∧ (∀ xs, SqT K H a xs → xs[i]? = some x) ∧ (∀ ys, SqT K H b ys → ys[i]? = some y) ∧ ∀ zs, SqL K H c zs → zs[i]? = some z,
    fun i H => ∃ xs ys zs : List V, SqT K H a xs ∧ SqT K H b ys ∧ SqL K H c zs ∧ xs.length = i ∧ ys.length = i ∧ zs.length = i⟩
theorem turn_zip3 {P : Program} {w : World} {K : PySem.W.Frag} {elts : List Expr} {kk : Nat} {tpos : Pos} {a b c z TI TO i1 i2 i3 : Addr}
    (D : ZipSep3 z TI TO i1 i2 i3 [i1, a] [i2, b] [i3, c]) (h1a : a ≠ i1) (h2b : b ≠ i2) (h3c : c ≠ i3) :
    Turn P w K (.Tuple elts kk tpos) (Itz3 K a b c) [z, TI, TO, i1, i2, i3] z (fun i h => IsZip h z TI TO .none ∧ IsTupOf3 h TI (.ref i1) (.ref i2) (.ref i3) ∧ (∃ x y u, IsTupOf3 h TO x y u) ∧ h.IsTupleIter i1 a i ∧ h.IsTupleIter i2 b i ∧ h.IsListIter i3 c i) where
  mem := by simp
  obj := fun i h st d hd => by
    obtain ⟨hz, hTI, ⟨x, y, u, hTO⟩, ⟨o1, e1, _, d1⟩, ⟨o2, e2, _, d2⟩, ⟨o3, e3, _, d3⟩⟩ := st
    have e' : d = z ∨ d = TI ∨ d = TO ∨ d = i1 ∨ d = i2 ∨ d = i3 := by simpa using hd
    rcases e' with q | q | q | q | q | q
    · rw [q]; exact ⟨_, hz, fun v q => nomatch q⟩
    · rw [q]; exact ⟨_, hTI, fun v q => nomatch q⟩
    · rw [q]; exact ⟨_, hTO, fun v q => nomatch q⟩
    · rw [q]; exact ⟨o1, e1, fun v q => by rw [d1] at q; cases q⟩
    · rw [q]; exact ⟨o2, e2, fun v q => by rw [d2] at q; cases q⟩
    · rw [q]; exact ⟨o3, e3, fun v q => by rw [d3] at q; cases q⟩
  keep := fun i h h' st k => by
    obtain ⟨hz, hTI, ⟨x, y, u, hTO⟩, h1, h2, h3⟩ := st
    exact ⟨k z (by simp) _ hz, k TI (by simp) _ hTI, ⟨x, y, u, k TO (by simp) _ hTO⟩, h1.at fun o q => k i1 (by simp) o q, h2.at fun o q => k i2 (by simp) o q, h3.at fun o q => k i3 (by simp) o q⟩
  item := by
    intro X hP hw hK hc i pins s σ H E I hf st hg
    subst hP hw hK
    obtain ⟨hz, hTI, ⟨x0, y0, u0, hTO⟩, h1, h2, h3⟩ := st
    obtain ⟨xs, ys, zs, x, y, u, hqx, hqy, hqz, hx, hy, hu⟩ := hg
    obtain ⟨its, rv, p, _⟩ := I.tuple hqx
    obtain ⟨its2, rv2, p2, _⟩ := I.tuple hqy
    obtain ⟨its3, rv3, p3, _⟩ := I.list hqz
    obtain ⟨u1, hu1, ru1⟩ := rv.get hx
    obtain ⟨u2, hu2, ru2⟩ := rv2.get hy
    obtain ⟨u3, hu3, ru3⟩ := rv3.get hu
    have hh : X.A.in1.handled = none := I.ok.hd hc
    have D1 := Draws.tuple (prog := X.prog) (w := X.w) (A := X.A.in1) hh i1 a h1a its.toArray
    have D2 := Draws.tuple (prog := X.prog) (w := X.w) (A := X.A.in1) hh i2 b h2b its2.toArray
    have D3 := Draws.list (prog := X.prog) (w := X.w) (A := X.A.in1) hh i3 c h3c its3.toArray
    have hzl : z < s.heap.objs.size := Heap.lt_size hz
    have lt1 : i < its.toArray.size := by simpa using (List.getElem?_eq_some_iff.mp hu1).1
    have lt2 : i < its2.toArray.size := by simpa using (List.getElem?_eq_some_iff.mp hu2).1
    have lt3 : i < its3.toArray.size := by simpa using (List.getElem?_eq_some_iff.mp hu3).1
    refine wpAny_pyNext_zipD3_item D D1 D2 D3 hz hTI hTO ⟨h1, p⟩ ⟨h2, p2⟩ ⟨h3, p3.isList⟩ lt1 lt2 lt3 fun x1 x2 x3 h' tk q1 q2 q3 z' TO' s1' s2' s3' hT hsz hk => ?_
    have e1 : x1 = u1 := by have q : its[i]? = some x1 := by simpa using q1
                            rw [hu1] at q; exact (Option.some.inj q).symm
    have e2 : x2 = u2 := by have q : its2[i]? = some x2 := by simpa using q2
                            rw [hu2] at q; exact (Option.some.inj q).symm
    have e3 : x3 = u3 := by have q : its3[i]? = some x3 := by simpa using q3
                            rw [hu3] at q; exact (Option.some.inj q).symm
    subst e1 e2 e3
    refine ⟨_, rfl, wpAny_letOwnedTupleGo_zip (s := { s with heap := h', toks := tk }) z' fun h'' z'' sb => ?_⟩
    have hT2 : h''.get? s.heap.objs.size = some { cls := .type "tuple", data := .seq #[x1, x2, x3] } := (sb.2 _ (Nat.ne_of_gt hzl)).trans hT
    have new : ObjOk X.prog X.w (upd H s.heap.objs.size (.tup [x, y, u])) h'' s.heap.objs.size (.tup [x, y, u]) :=
      ⟨by show 3 ≤ sizeLine; decide, [x1, x2, x3], .cons ru1 (.cons ru2 (.cons ru3 .nil)), ⟨_, hT2, rfl, _, rfl⟩⟩
    have I1 : Inv X pins σ (upd H s.heap.objs.size (.tup [x, y, u])) { s with heap := h'', toks := tk } :=
      I.turnedNew (t' := tk) (ch := [z, TI, TO, i1, i2, i3]) (fun d o hb q => (sb.2 d (fun q' => hb (by simp [q']))).trans (hk d o (fun q' => hb (by simp [q'])) (fun q' => hb (by simp [q'])) (fun q' => hb (by simp [q'])) (fun q' => hb (by simp [q'])) (fun q' => hb (by simp [q'])) q)) hf (Nat.le_refl _) new
    refine ⟨.ref s.heap.objs.size, _, I1, rfl, ⟨_, x, y, u, rfl, I.hok.fresh (Nat.le_refl _), rfl, fun l hl => by rw [I.tuple_inj hl hqx]; exact hx, fun l hl => by rw [I.tuple_inj hl hqy]; exact hy, fun l hl => by rw [I.list_inj hl hqz]; exact hu⟩, ⟨z'', ?_, ⟨x1, x2, x3, ?_⟩, ?_, ?_, ?_⟩, fun d hdm => ?_⟩
    · exact (sb.2 _ D.TIz).trans (hk _ _ D.TIz D.TITO D.TIi1 D.TIi2 D.TIi3 hTI)
    · exact (sb.2 _ D.TOz).trans TO'
    · exact s1'.1.at fun o q => (sb.2 _ D.zi1.symm).trans q
    · exact s2'.1.at fun o q => (sb.2 _ D.zi2.symm).trans q
    · exact s3'.1.at fun o q => (sb.2 _ D.zi3.symm).trans q
    · have hlt : d < s.heap.objs.size := by
        have e' : d = z ∨ d = TI ∨ d = TO ∨ d = i1 ∨ d = i2 ∨ d = i3 := by simpa using hdm
        rcases e' with q | q | q | q | q | q
        · rw [q]; exact hzl
        · rw [q]; exact Heap.lt_size hTI
        · rw [q]; exact Heap.lt_size hTO
        · rw [q]; obtain ⟨_, e1, _⟩ := h1; exact Heap.lt_size e1
        · rw [q]; obtain ⟨_, e2, _⟩ := h2; exact Heap.lt_size e2
        · rw [q]; obtain ⟨_, e3, _⟩ := h3; exact Heap.lt_size e3
      rw [upd_ne (Nat.ne_of_lt hlt)]
      exact (hf d hdm).1
  done := by
    intro X hP hw hK hc i pins s σ H E I hf st hg
    subst hP hw hK
    obtain ⟨hz, hTI, ⟨x0, y0, u0, hTO⟩, h1, h2, h3⟩ := st
    obtain ⟨xs, ys, zs, hqx, hqy, hqz, l1, l2, l3⟩ := hg
    obtain ⟨its, rv, p, _⟩ := I.tuple hqx
    obtain ⟨its2, rv2, p2, _⟩ := I.tuple hqy
    obtain ⟨its3, rv3, p3, _⟩ := I.list hqz
    have m1 : i = its.toArray.size := by have := rv.length; simp; omega
    have m2 : i = its2.toArray.size := by have := rv2.length; simp; omega
    have m3 : i = its3.toArray.size := by have := rv3.length; simp; omega
    have hh : X.A.in1.handled = none := I.ok.hd hc
    have D1 := Draws.tuple (prog := X.prog) (w := X.w) (A := X.A.in1) hh i1 a h1a its.toArray
    have D2 := Draws.tuple (prog := X.prog) (w := X.w) (A := X.A.in1) hh i2 b h2b its2.toArray
    have D3 := Draws.list (prog := X.prog) (w := X.w) (A := X.A.in1) hh i3 c h3c its3.toArray
    exact wpAny_pyNext_zipD3_end D D1 D2 D3 hz hTI hTO ⟨h1, p⟩ ⟨h2, p2⟩ ⟨h3, p3.isList⟩ (Nat.le_of_eq m1) (Nat.le_of_eq m2) (Nat.le_of_eq m3) (.inl m1) fun h' tk hk => ⟨rfl, I.turnedL (t' := tk) (ch := [z, TI, TO, i1, i2, i3]) (fun d o hb q =>
      hk d o (fun q' => hb (by simp [q'])) (fun q' => hb (by simp [q'])) (fun q' => hb (by simp [q'])) (fun q' => hb (by simp [q'])) (fun q' => hb (by simp [q'])) q) hf⟩
  self := fun A i s Q E st h => wpAny_pyIter_zip st.1 h
def iZip3 (K : PySem.W.Frag) (ta : TA) : TI := fun σ H R => ta σ H fun vs H1 => ∃ a b c xs ys zs, vs = [.ref a, .ref b, .ref c] ∧ SqT K H1 a xs ∧ SqT K H1 b ys ∧ SqL K H1 c zs ∧ R (Itz3 K a b c) H1
theorem pi_zip3 {X : Cx} {e e2 e3 : Expr} {ta : TA} {p pos tpos : Pos} {elts : List Expr} {kk : Nat} (hg : Gl X "zip") (hm : X.mg "zip" = none) (ha : PA X [e, e2, e3] ta)
    (hs : starEach [e, e2, e3] X.env = (false, eval e X.env) :: starEach [e2, e3] X.env := by rfl) (hpl : (backTo pos (starEach [e2, e3] X.env)).any (·.1) = false := by rfl) :
    PI X (.Tuple elts kk tpos) (.Call (.Name "zip" p) [e, e2, e3] [] pos) (iZip3 X.K ta) := by
  refine ⟨fun pins s σ H R I h => ?_⟩
  refine Call_ (ld_blt I hg hm PyProof.Rows.boot_zip (PyProof.Rows.callWith_type1 (thn (ha.run pos pins s σ H _ I h) fun us s1 ⟨vs, H1, I1, r1, q1⟩ => ?_) hs hpl))
  obtain ⟨a, b, c, xs, ys, zs, ex, hqx, hqy, hqz, q⟩ := q1
  subst ex
  cases r1 with
  | cons r rr =>
    cases rr with
    | cons r' rr =>
      cases rr with
      | cons r'' rr =>
        cases rr
        cases r
        cases r'
        cases r''
        obtain ⟨its, rv, p1, _⟩ := I1.tuple hqx
        obtain ⟨its2, rv2, p2, _⟩ := I1.tuple hqy
        obtain ⟨its3, rv3, p3, _⟩ := I1.list hqz
        have la : a < s1.heap.objs.size := p1.lt
        have lb : b < s1.heap.objs.size := p2.lt
        have lc : c < s1.heap.objs.size := p3.lt
        refine zip_begins3 (begins_tuple a its.toArray) (begins_tuple b its2.toArray) (begins_list c its3.toArray) p1 p2 p3.isList fun h' hz hTI hTO h1 h2 h3 hsz hk => wpAny_pyIter_zip hz ?_
        have I2 : Inv X pins σ H1 { s1 with heap := h' } := I1.kept (t' := s1.toks) hk
        have sep : ZipSep3 (s1.heap.objs.size + 5) (s1.heap.objs.size + 3) (s1.heap.objs.size + 4) s1.heap.objs.size (s1.heap.objs.size + 1) (s1.heap.objs.size + 2) [s1.heap.objs.size, a] [s1.heap.objs.size + 1, b] [s1.heap.objs.size + 2, c] :=
          zip_sep3 (N := s1.heap.objs.size) (fp1 := [a]) (fp2 := [b]) (fp3 := [c]) (fun d hd => by rw [List.mem_singleton.mp hd]; exact la) (fun d hd => by rw [List.mem_singleton.mp hd]; exact lb) (fun d hd => by rw [List.mem_singleton.mp hd]; exact lc)
        refine ⟨s1.heap.objs.size + 5, [s1.heap.objs.size + 5, s1.heap.objs.size + 3, s1.heap.objs.size + 4, s1.heap.objs.size, s1.heap.objs.size + 1, s1.heap.objs.size + 2], _, _, H1, rfl, I2,
          turn_zip3 sep (Nat.ne_of_lt la) (Nat.ne_of_lt (Nat.lt_succ_of_lt lb)) (Nat.ne_of_lt (Nat.lt_succ_of_lt (Nat.lt_succ_of_lt lc))), ⟨hz, hTI, ⟨_, _, _, hTO⟩, ⟨_, h1, rfl, rfl⟩, ⟨_, h2, rfl, rfl⟩, ⟨_, h3, rfl, rfl⟩⟩, fun d hdm => ?_, q⟩
        have e' : d = s1.heap.objs.size + 5 ∨ d = s1.heap.objs.size + 3 ∨ d = s1.heap.objs.size + 4 ∨ d = s1.heap.objs.size ∨ d = s1.heap.objs.size + 1 ∨ d = s1.heap.objs.size + 2 := by simpa using hdm
        have hle : s1.heap.objs.size ≤ d := by
          rcases e' with z | z | z | z | z | z
          · rw [z]; exact Nat.le_add_right _ _
          · rw [z]; exact Nat.le_add_right _ _
          · rw [z]; exact Nat.le_add_right _ _
          · rw [z]; exact Nat.le_refl _
          · rw [z]; exact Nat.le_add_right _ _
          · rw [z]; exact Nat.le_add_right _ _
        exact I1.fpOk hle (I1.hok.fresh hle)
/-- the tuple at a, each item in a new pair with its number -/
def IteT (K : PySem.W.Frag) (a : Addr) : It :=
  ⟨fun i H => ∃ (xs : List V) (x : V), SqT K H a xs ∧ xs[i]? = some x, fun i H v H' => ∃ T x, v = .ref T ∧ H T = none ∧ H' = upd H T (.tup [.int (i : Nat), x]) ∧ ∀ xs, SqT K H a xs → xs[i]? = some x, fun i H => ∃ xs : List V, SqT K H a xs ∧ xs.length = i⟩
theorem turn_enumT {P : Program} {w : World} {K : PySem.W.Frag} {elts : List Expr} {kk : Nat} {tpos : Pos} (a e it : Addr) (hai : a ≠ it) (hae : e ≠ a) :
    Turn P w K (.Tuple elts kk tpos) (IteT K a) [e, it] e (fun i h => (∃ old, IsEnum h e it ((i : Nat) : Int) old) ∧ h.IsTupleIter it a i ∧ e ≠ it) where
  mem := by simp
  obj := fun i h st b hb => by
    obtain ⟨⟨old, he⟩, ⟨o, ho, hc, hd⟩, _⟩ := st
    have e' : b = e ∨ b = it := by simpa using hb
    rcases e' with z | z
    · rw [z]; exact ⟨_, he, fun v q => nomatch q⟩
    · rw [z]; exact ⟨o, ho, fun v q => by rw [hd] at q; cases q⟩
  keep := fun i h h' st k => let ⟨⟨old, he⟩, hi, hne⟩ := st; ⟨⟨old, k e (by simp) _ he⟩, hi.at fun o q => k it (by simp) o q, hne⟩
  item := by
    intro X hP hw hK hc i pins s σ H E I hf st hg
    subst hP hw hK
    obtain ⟨⟨old, he⟩, hit, hne⟩ := st
    obtain ⟨xs, x, hq, hx⟩ := hg
    obtain ⟨its, rv, p, hz⟩ := I.tuple hq
    obtain ⟨u, hu, ru⟩ := rv.get hx
    have hel : e < s.heap.objs.size := Heap.lt_size he
    have hil : it < s.heap.objs.size := by obtain ⟨_, q, _⟩ := hit; exact Heap.lt_size q
    have hh : X.A.in1.handled = none := I.ok.hd hc
    have D1 := Draws.tuple (prog := X.prog) (w := X.w) (A := X.A.in1) hh it a hai its.toArray
    have lt1 : i < its.toArray.size := by simpa using (List.getElem?_eq_some_iff.mp hu).1
    have hef : e ∉ [it, a] := by simp [hne, hae]
    refine wpAny_pyNext_enum_itemD D1 he ⟨hit, p⟩ lt1 hne hef fun x1 h' tk q1 ho st' hT hsz hk => ?_
    have e1 : x1 = u := by have q : its[i]? = some x1 := by simpa using q1
                           rw [hu] at q; exact (Option.some.inj q).symm
    subst e1
    refine ⟨_, rfl, wpAny_letOwnedTupleGo_enum (s := { s with heap := h', toks := tk + 1 }) ho fun h'' he' sb => ?_⟩
    have hT2 : h''.get? s.heap.objs.size = some { cls := .type "tuple", data := .seq #[.int i tk, x1] } := (sb.2 _ (Nat.ne_of_gt hel)).trans hT
    have new : ObjOk X.prog X.w (upd H s.heap.objs.size (.tup [.int (i : Nat), x])) h'' s.heap.objs.size (.tup [.int (i : Nat), x]) :=
      ⟨by show 2 ≤ sizeLine; decide, [.int i tk, x1], .cons ⟨_, rfl⟩ (.cons ru .nil), ⟨_, hT2, rfl, _, rfl⟩⟩
    have I1 : Inv X pins σ (upd H s.heap.objs.size (.tup [.int (i : Nat), x])) { s with heap := h'', toks := tk + 1 } :=
      I.turnedNew (ch := [e, it]) (fun b ob hb q => (sb.2 b (fun z => hb (by simp [z]))).trans (hk b ob (fun z => hb (by simp [z])) (fun z => hb (by simp [z])) q)) hf (Nat.le_refl _) new
    refine ⟨.ref s.heap.objs.size, _, I1, rfl, ⟨_, x, rfl, I.hok.fresh (Nat.le_refl _), rfl, fun ys hy => by rw [I.tuple_inj hy hq]; exact hx⟩, ⟨⟨x1, ?_⟩, st'.1.at fun o q => (sb.2 it (Ne.symm hne)).trans q, hne⟩, fun b hb => ?_⟩
    · have e1 : ((i + 1 : Nat) : Int) = (i : Int) + 1 := by omega
      rw [e1]; exact he'
    · have hb' : b < s.heap.objs.size := by
        have e' : b = e ∨ b = it := by simpa using hb
        rcases e' with z | z
        · rw [z]; exact hel
        · rw [z]; exact hil
      rw [upd_ne (Nat.ne_of_lt hb')]
      exact (hf b hb).1
  done := by
    intro X hP hw hK hc i pins s σ H E I hf st hg
    subst hP hw hK
    obtain ⟨⟨old, he⟩, hit, hne⟩ := st
    obtain ⟨xs, hq, hx⟩ := hg
    obtain ⟨its, rv, p, hz⟩ := I.tuple hq
    obtain ⟨f0, f1, f2, f3, f4, f5⟩ := hf it (by simp)
    have hh : X.A.in1.handled = none := I.ok.hd hc
    have D1 := Draws.tuple (prog := X.prog) (w := X.w) (A := X.A.in1) hh it a hai its.toArray
    have m1 : its.toArray.size = i := by have := rv.length; simp; omega
    refine wpAny_pyNext_enum_endD D1 he ⟨by rw [m1]; exact hit, p⟩ fun h' eb => ⟨rfl, I.turned (t' := s.toks) (fun b o hb q => eb b o hb q) f0 f1 f3 f4 f5⟩
  self := fun A i s Q E st h => let ⟨⟨_, he⟩, _⟩ := st; wpAny_pyIter_enum he h

theorem meets_enumerate_newB1 {v : Value} {o : Obj} {H : Heap → Prop} (B : Begins v o H) :
    Meets (Builtin.«enumerate.__new__» ⟨[.type "enumerate", v], []⟩) (fun _ R s => H s.heap ∧
      R (.ok (.ret (.ref (s.heap.push o).objs.size))) { s with heap := (s.heap.push o).push { cls := .type "enumerate", data := .fields #[.none, .bool false, .ref s.heap.objs.size, rawInt 0, .none, .none] } }) :=
  .of_wp fun prog w A R s h => by
    obtain ⟨hp, g, d, tk, os⟩ := s; obtain ⟨h1, h⟩ := h
    have hsub := sub_enumerate
    have q1 : ∀ {A' : Around} {E : Value → Shared → Prop} {Q : Value → Shared → Prop}, Q (.ref hp.objs.size) ⟨hp.push o, g, d, tk, os⟩ → wpAny (model prog w) A' (pyIter v) Q E ⟨hp, g, d, tk, os⟩ :=
      fun q => B.iter prog w _ _ ⟨hp, g, d, tk, os⟩ _ h1 q
    wp_walk using q1
    refine wpAny_stack_any fun st => wpAny_pure ?_
    split
    · rename_i c _ _ _ _ _
      cases (c == Value.type "enumerate")
      · wp_walk using q1
        exact ⟨_, rfl, h⟩
      · wp_walk using q1
        exact ⟨_, rfl, h⟩
    · wp_walk using q1
      exact ⟨_, rfl, h⟩
theorem enum_begins1 {prog : Program} {w : World} {A : Around} {E : Value → Shared → Prop} {s : Shared} {v : Value} {o : Obj} {H : Heap → Prop} {Q : Value → Shared → Prop} (B : Begins v o H) (h1 : H s.heap)
    (h : ∀ h', IsEnum h' (s.heap.objs.size + 1) s.heap.objs.size 0 .none → h'.get? s.heap.objs.size = some o → h'.objs.size = s.heap.objs.size + 2 →
      (∀ b o, s.heap.get? b = some o → h'.get? b = some o) → Q (.ref (s.heap.objs.size + 1)) { s with heap := h' }) :
    wpAny (model prog w) A (call (.type "enumerate") [v]) Q E s := by
  refine callType_new F.called_enumerate (by decide) (F.typeCall_enumerate_1 _) (F.newCall_enumerate_1 _) (fun obj => F.args_object_init_2 obj _) F.entry_enumerate_new
    (meets_enumerate_newB1 B) ⟨h1, ?_⟩
  have hz : (s.heap.push o).objs.size = s.heap.objs.size + 1 := Heap.size_push ..
  show _ ∧ _
  rw [hz]
  have he : IsEnum ((s.heap.push o).push { cls := .type "enumerate", data := .fields #[.none, .bool false, .ref s.heap.objs.size, rawInt 0, .none, .none] }) (s.heap.objs.size + 1) s.heap.objs.size 0 .none := by
    have := Heap.get?_push_size (s.heap.push o) (o := { cls := .type "enumerate", data := .fields #[.none, .bool false, .ref s.heap.objs.size, rawInt 0, .none, .none] }) rfl
    rw [hz] at this; exact this
  refine ⟨⟨_, he, rfl⟩, h _ he (Heap.get?_push_of_some _ (Heap.get?_push_size _ B.free)) (by rw [Heap.size_push, hz]) fun b o x => Heap.get?_push_of_some _ (Heap.get?_push_of_some _ x)⟩
def iEnumT (K : PySem.W.Frag) (ta : TA) : TI := fun σ H R => ta σ H fun vs H1 => ∃ a xs, vs = [.ref a] ∧ SqT K H1 a xs ∧ R (IteT K a) H1
theorem pi_enumT {X : Cx} {e : Expr} {ta : TA} {p pos tpos : Pos} {elts : List Expr} {kk : Nat} (hg : Gl X "enumerate") (hm : X.mg "enumerate" = none) (ha : PA X [e] ta) (hs : starEach [e] X.env = [(false, eval e X.env)] := by rfl) :
    PI X (.Tuple elts kk tpos) (.Call (.Name "enumerate" p) [e] [] pos) (iEnumT X.K ta) := by
  refine ⟨fun pins s σ H R I h => ?_⟩
  refine Call_ (ld_blt I hg hm boot_enumerate (PyProof.Rows.callWith_type1 (thn (ha.run pos pins s σ H _ I h) fun us s1 ⟨vs, H1, I1, r1, q1⟩ => ?_) hs rfl))
  obtain ⟨a, xs, ex, hq, q⟩ := q1
  subst ex
  cases r1 with
  | cons r rr =>
    cases rr
    cases r
    obtain ⟨its, rv, p', hz⟩ := I1.tuple hq
    have la : a < s1.heap.objs.size := p'.lt
    refine enum_begins1 (begins_tuple a its.toArray) p' fun h' he hit hsz hk => wpAny_pyIter_enum he ?_
    have I2 : Inv X pins σ H1 { s1 with heap := h' } := I1.kept (t' := s1.toks) hk
    refine ⟨s1.heap.objs.size + 1, [s1.heap.objs.size + 1, s1.heap.objs.size], _, _, H1, rfl, I2, turn_enumT a (s1.heap.objs.size + 1) s1.heap.objs.size (Nat.ne_of_lt la) (Nat.ne_of_gt (Nat.lt_succ_of_lt la)), ⟨⟨.none, he⟩, ⟨_, hit, rfl, rfl⟩, Nat.succ_ne_self _⟩, fun b hb => ?_, q⟩
    have e' : b = s1.heap.objs.size + 1 ∨ b = s1.heap.objs.size := by simpa using hb
    have hle : s1.heap.objs.size ≤ b := by
      rcases e' with z | z
      · rw [z]; exact Nat.le_add_right _ _
      · rw [z]; exact Nat.le_refl _
    exact I1.fpOk hle (I1.hok.fresh hle)
end Sw
namespace Sw
open PySem PySem.Spec PyProof.Rows L2 Evl
/-! ### more rules: sum of a tuple -/
section
variable {X : Cx}
def rSumT (K : PySem.W.Frag) : List V → Hp → VK → Prop := fun vs H Q => ∃ (a : Addr) (ns : List Int), vs = [V.ref a] ∧ SqT K H a (ns.map V.int) ∧ Q (.int ns.sum) H
theorem cr_sumT (hc : X.calm = true) : CallR X (.builtin "sum") (rSumT X.K) := by
  intro pins s σ H vs us Q I r h
  obtain ⟨a, ns, rfl, hs, q⟩ := h
  obtain ⟨its, rv, hl, _⟩ := I.tuple hs
  rw [Vals.ref1 r]
  obtain ⟨xs, e⟩ := rv.ints.allInts.items
  have hn : numsOf (intItems xs).toList = ns := by rw [← e]; exact rv.ints.numsOf
  rw [nums_intItems] at hn
  have hl' : s.heap.IsTuple a (intItems xs) := by rw [← e]; exact hl
  refine PySem.W.ktm_sumG (I.ok.hd hc) hl' fun h' tk t' hk => ⟨.int ns.sum, H, I.kept hk, ⟨t', ?_⟩, q⟩
  rw [preSum_eq, List.take_of_length_le (by simp), hn]
theorem ps_no {st : Stmt} : PS X st (fun _ _ _ => False) := ⟨fun _ _ _ _ _ _ h => h.elim⟩
end
/-! ### what they evaluate to -/
section
variable {K : PySem.W.Frag} {σ : L2.St} {H H' : Hp} {ta tb te tx : TE} {x y z v : V}
theorem ev_sumN {ns : List Int} (h : EvL ta σ H (ns.map V.int)) : Ev (tCB (rSum K) (tCons ta tNil)) σ H (.int ns.sum) := fun H1 e Q q =>
  h H1 e _ fun p H2 _ e2 h2 => ⟨p, ns, rfl, sq_of h2, q H2 e2⟩
theorem ev_sumL {a : Addr} {ns : List Int} (h : Ev ta σ H (.ref a)) (hx : SqL K H a (ns.map V.int)) : Ev (tCB (rSum K) (tCons ta tNil)) σ H (.int ns.sum) := fun H1 e Q q =>
  h H1 e _ fun H2 e2 => ⟨a, ns, rfl, ex_l (e.trans e2) hx, q H2 e2⟩
theorem ev_sumT {a : Addr} {ns : List Int} (h : Ev ta σ H (.ref a)) (hx : SqT K H a (ns.map V.int)) : Ev (tCB (rSumT K) (tCons ta tNil)) σ H (.int ns.sum) := fun H1 e Q q =>
  h H1 e _ fun H2 e2 => ⟨a, ns, rfl, ex_t (e.trans e2) hx, q H2 e2⟩
theorem ev_lenT {a : Addr} {xs : List V} (h : Ev ta σ H (.ref a)) (hx : SqT K H a xs) : Ev (tCB (rLenS K) (tCons ta tNil)) σ H (.int (xs.length : Int)) := fun H1 e Q q =>
  h H1 e _ fun H2 e2 => ⟨a, xs, rfl, .inr (ex_t (e.trans e2) hx), q H2 e2⟩
theorem given_all (n : Nat) (v : Nat → V) : given n (fun _ => true) v = (List.range n).map v := by
  unfold given
  rw [List.filter_eq_self.mpr (fun _ _ => rfl)]
theorem et_yes : EvT tYes σ H true := fun H1 _ _ q => q H1 (Ex.refl H1)
/-- the comprehension over range(n), no test -/
theorem el_lcR {ta : TA} {j : Nat} {vs : List Nat} {n : Int} (v : Nat → V) (h : EvA ta σ H [.int n]) (hn : 0 ≤ n ∧ n ≤ 40000) (hw : ∀ x, wipe ((wipe σ vs).set j (some x)) vs = wipe σ vs)
    (he : ∀ (i : Nat) H1, Ex H H1 → (i : Int) < n → Ev te ((wipe σ vs).set j (some (.int (i : Int)))) H1 (v i)) :
    EvL (tLc (iRng1 ta) (gName j) tYes te vs) σ H ((List.range n.toNat).map v) := by
  rw [← given_all]
  exact el_lcR1 (fun _ => true) v h hn hw (fun _ _ _ _ => et_yes) (fun i H1 e hi _ => he i H1 e hi)
theorem atI_at {α : Type} {xs : List α} {i : Int} {d : α} (h0 : 0 ≤ i) (h1 : i < xs.length) : atI xs i = some (xs.getD i.toNat d) := by
  obtain ⟨j, rfl⟩ : ∃ j : Nat, i = (j : Int) := ⟨i.toNat, by omega⟩
  have hj : j < xs.length := by omega
  rw [atI_nat (v := xs[j]) (by simp [hj]), Int.toNat_natCast]
  simp [List.getD, hj]
end
end Sw
namespace Sw
open PySem PySem.Spec PyProof.Rows L2 Evl
/-! ### instances, methods, calls -/
section
variable {K : PySem.W.Frag} {σ : L2.St} {H H' : Hp} {ta tb te tx : TE} {x y z v : V} {a C dx : Addr} {fs : List (Str × V)} {f m : Str}
/-- the instance at a has the field -/
def Fl (H : Hp) (a C : Addr) (f : Str) (v : V) : Prop := ∃ dx fs, H a = some (.ins C dx fs) ∧ fs.lookup f = some v
/-- the instance at a has no such field -/
def NoF (H : Hp) (a C : Addr) (f : Str) : Prop := ∃ dx fs, H a = some (.ins C dx fs) ∧ fs.lookup f = none
theorem Fl.mono (e : Ex H H') (h : Fl H a C f v) : Fl H' a C f v := let ⟨dx, fs, h1, h2⟩ := h; ⟨dx, fs, e _ _ h1, h2⟩
theorem NoF.mono (e : Ex H H') (h : NoF H a C f) : NoF H' a C f := let ⟨dx, fs, h1, h2⟩ := h; ⟨dx, fs, e _ _ h1, h2⟩
theorem ev_fld (h : Ev ta σ H (.ref a)) (hf : Fl H a C f v) (c : Cls K C) (n : NoAttr K C f) : Ev (tFld K ta f) σ H v := fun H1 e Q q =>
  h H1 e _ fun H2 e2 => let ⟨dx, fs, h1, h2⟩ := hf; ⟨a, C, dx, fs, v, rfl, e2 _ _ (e _ _ h1), c, n, h2, q H2 e2⟩
/-- what a method's promise gives -/
theorem ev_meth {sp : Sp} {dvs vs : List V} {E : XK} {t : TA} (h : Ev ta σ H (.ref a)) (nf : NoF H a C m) (hv : EvA t σ H vs) (hs : SpV sp (.ref a :: (vs ++ dvs)) H z) : Ev (tMeth C m sp dvs E ta t) σ H z := fun H1 e Q q =>
  h H1 e _ fun H2 e2 => let ⟨dx, fs, h1, h2⟩ := nf; ⟨a, dx, fs, rfl, e2 _ _ (e _ _ h1), h2, hv H2 (e.trans e2) _ fun H3 e3 => hs H3 ((e.trans e2).trans e3) Q (fun H4 e4 => q H4 ((e2.trans e3).trans e4)) E⟩
theorem el_meth {sp : Sp} {dvs vs xs : List V} {E : XK} {t : TA} (h : Ev ta σ H (.ref a)) (nf : NoF H a C m) (hv : EvA t σ H vs) (hs : SpL sp (.ref a :: (vs ++ dvs)) H xs) : EvL (tMeth C m sp dvs E ta t) σ H xs := fun H1 e Q q =>
  h H1 e _ fun H2 e2 => let ⟨dx, fs, h1, h2⟩ := nf; ⟨a, dx, fs, rfl, e2 _ _ (e _ _ h1), h2, hv H2 (e.trans e2) _ fun H3 e3 => hs H3 ((e.trans e2).trans e3) Q (fun p H4 hp e4 h4 => q p H4 (fresh_back (e2.trans e3) hp) ((e2.trans e3).trans e4) h4) E⟩
/-- a new tuple -/
def SpU (sp : Sp) (vs : List V) (H : Hp) (xs : List V) : Prop := ∀ H1, Ex H H1 → ∀ Q : VK, (∀ p H2, H1 p = none → Ex H1 H2 → H2 p = some (.tup xs) → Q (.ref p) H2) → ∀ E : XK, sp vs H1 Q E
theorem eu_meth {sp : Sp} {dvs vs xs : List V} {E : XK} {t : TA} (h : Ev ta σ H (.ref a)) (nf : NoF H a C m) (hv : EvA t σ H vs) (hs : SpU sp (.ref a :: (vs ++ dvs)) H xs) : EvU (tMeth C m sp dvs E ta t) σ H xs := fun H1 e Q q =>
  h H1 e _ fun H2 e2 => let ⟨dx, fs, h1, h2⟩ := nf; ⟨a, dx, fs, rfl, e2 _ _ (e _ _ h1), h2, hv H2 (e.trans e2) _ fun H3 e3 => hs H3 ((e.trans e2).trans e3) Q (fun p H4 hp e4 h4 => q p H4 (fresh_back (e2.trans e3) hp) ((e2.trans e3).trans e4) h4) E⟩
theorem eu_call {sp : Sp} {dvs vs xs : List V} {E : XK} {ta : TA} (h : EvA ta σ H vs) (hs : SpU sp (vs ++ dvs) H xs) : EvU (tCall sp dvs E ta) σ H xs := fun H1 e Q q =>
  h H1 e _ fun H2 e2 => hs H2 (e.trans e2) Q (fun p H3 hp e3 h3 => q p H3 (fresh_back e2 hp) (e2.trans e3) h3) E
/-- an item of what a call hands back -/
theorem ev_ixNL {xs : List V} {i : Int} (h : EvL ta σ H xs) (hb : Ev tb σ H (.int i)) (ha : atI xs i = some v) : Ev (tOp (rIxL K) ta tb) σ H v := ev_opL1 h (fun H1 e => hb.mono e) fun p H1 hp _ => rv_ixL (K := K) (sq_of hp) ha
theorem ev_ixNU {xs : List V} {i : Int} (h : EvU ta σ H xs) (hb : Ev tb σ H (.int i)) (ha : atI xs i = some v) : Ev (tOp (rIxT K) ta tb) σ H v := fun H1 e Q q =>
  h H1 e _ fun p H2 _ e2 hp => hb H2 (e.trans e2) _ fun H3 e3 => rv_ixT (K := K) (st_of (e3 p _ hp)) ha H3 (Ex.refl H3) Q fun H4 e4 => q H4 ((e2.trans e3).trans e4)
theorem ev_ixL {p : Addr} {xs : List V} {i : Int} (h : Ev ta σ H (.ref p)) (hx : SqL K H p xs) (hb : Ev tb σ H (.int i)) (ha : atI xs i = some v) : Ev (tOp (rIxL K) ta tb) σ H v := ev_op h hb (rv_ixL hx ha)
theorem ev_ixT {p : Addr} {xs : List V} {i : Int} (h : Ev ta σ H (.ref p)) (hx : SqT K H p xs) (hb : Ev tb σ H (.int i)) (ha : atI xs i = some v) : Ev (tOp (rIxT K) ta tb) σ H v := ev_op h hb (rv_ixT hx ha)
/-- the smaller, the greater of two -/
def rMn : List V → Hp → VK → Prop := fun xs H Q => ∃ i j, xs = [.int i, .int j] ∧ Q (.int (if j < i then j else i)) H
theorem ev_min2 {i j : Int} (ha : Ev ta σ H (.int i)) (hb : Ev tb σ H (.int j)) : Ev (tCB rMn (tCons ta (tCons tb tNil))) σ H (.int (min i j)) := fun H1 e Q q =>
  ha H1 e _ fun H2 e2 => hb H2 (e.trans e2) _ fun H3 e3 => ⟨i, j, rfl, by
    have z : (if j < i then j else i) = min i j := by omega
    rw [z]; exact q H3 (e2.trans e3)⟩
theorem ev_maxi {i j : Int} (ha : Ev ta σ H (.int i)) (hb : Ev tb σ H (.int j)) : Ev (tCB rMax2 (tCons ta (tCons tb tNil))) σ H (.int (max i j)) := by
  have z : (if j > i then j else i) = max i j := by omega
  rw [← z]; exact ev_max2 ha hb
/-- divmod: a new pair -/
def rDm : List V → Hp → VK → Prop := fun xs H Q => ∃ i j, xs = [.int i, .int j] ∧ CDiv i j ∧ ∀ p, H p = none → Q (.ref p) (upd H p (.tup [.int (i / j), .int (i % j)]))
theorem eu_dm {i j : Int} (ha : Ev ta σ H (.int i)) (hb : Ev tb σ H (.int j)) (hc : CDiv i j) : EvU (tCB rDm (tCons ta (tCons tb tNil))) σ H [.int (i / j), .int (i % j)] := fun H1 e Q q =>
  ha H1 e _ fun H2 e2 => hb H2 (e.trans e2) _ fun H3 e3 => ⟨i, j, rfl, hc, fun p hp => q p _ (fresh_back (e2.trans e3) hp) ((e2.trans e3).trans (Ex.new hp)) upd_same⟩
theorem eu_tup {t : TA} {xs : List V} (h : EvA t σ H xs) (hz : xs.length ≤ 100000) : EvU (tTup t) σ H xs := fun H1 e Q q =>
  h H1 e _ fun H2 e2 => ⟨sz_of hz, fun p hp => q p _ (fresh_back e2 hp) (e2.trans (Ex.new hp)) upd_same⟩
theorem el_lst {t : TA} {xs : List V} (h : EvA t σ H xs) (hz : xs.length ≤ 100000) : EvL (tLst t) σ H xs := fun H1 e Q q =>
  h H1 e _ fun H2 e2 => ⟨sz_of hz, fun p hp => q p _ (fresh_back e2 hp) (e2.trans (Ex.new hp)) upd_same⟩
theorem Ev.int_eq {i j : Int} (h : Ev te σ H (.int i)) (e : i = j) : Ev te σ H (.int j) := e ▸ h
/-- a, b = a new pair -/
theorem s_pair {i j : Nat} {D : Ends} {x y : V} (h : EvU te σ H [x, y]) (k : ∀ H1, Ex H H1 → D.nx ((σ.set i (some x)).set j (some y)) H1) : tAsg te (gTup K 2 (gCons (gName i) (gCons (gName j) gNil))) D σ H :=
  h H (Ex.refl H) _ fun p H1 _ e hp => ⟨p, [x, y], rfl, st_of hp, rfl, x, [y], rfl, y, [], rfl, rfl, k H1 e⟩
theorem q_pair {i j : Nat} {D : Ends} {x y : V} {tz : TS} (h : EvU te σ H [x, y]) (k : ∀ H1, Ex H H1 → tz D ((σ.set i (some x)).set j (some y)) H1) : tSeq (tAsg te (gTup K 2 (gCons (gName i) (gCons (gName j) gNil)))) tz D σ H :=
  s_pair (D := { D with nx := tz D }) h k
end
/-! ### the rules with the written part named -/
section
variable {X : Cx}
theorem pe_fldK (K : PySem.W.Frag) {e : Expr} {f : Str} {pos : Pos} {ta : TE} (hK : X.K = K) (he : PE X e ta) (hb : attributeBase e f X.env (eval e X.env) = eval e X.env) : PE X (.Attribute e f pos) (tFld K ta f) := by
  subst hK; exact pe_fld he hb
theorem pi_listK (K : PySem.W.Frag) {tg l : Expr} {tl : TE} (hK : X.K = K) (hl : PE X l tl) : PI X tg l (iList K tl) := by
  subst hK; exact pi_list hl
theorem pi_tupK (K : PySem.W.Frag) {tg l : Expr} {tl : TE} (hK : X.K = K) (hl : PE X l tl) : PI X tg l (iTup K tl) := by
  subst hK; exact pi_tup hl
theorem pi_enumTK (K : PySem.W.Frag) {e : Expr} {ta : TA} {p pos tpos : Pos} {elts : List Expr} {kk : Nat} (hK : X.K = K) (hg : Gl X "enumerate") (hm : X.mg "enumerate" = none) (ha : PA X [e] ta) (hs : starEach [e] X.env = [(false, eval e X.env)] := by rfl) :
    PI X (.Tuple elts kk tpos) (.Call (.Name "enumerate" p) [e] [] pos) (iEnumT K ta) := by
  subst hK; exact pi_enumT hg hm ha hs
theorem pg_tupK (K : PySem.W.Frag) {es : List Expr} {k : Nat} {t : TGs} {n : Nat} {pos : Pos} (hK : X.K = K) (hc : X.calm = true) (h : PGs X es t)
    (hn : (assignEach es X.env).length = n := by rfl) (hst : (assignEach es X.env).findIdx? (·.1) = none := by rfl) : PG X (.Tuple es k pos) (gTup K n t) := by
  subst hK; exact pg_tup hc h hn hst
end
/-! ### the promises' shapes -/
def RetU (xs : List V) (H : Hp) (Q : VK) : Prop := ∀ p H2, H p = none → Ex H H2 → H2 p = some (.tup xs) → Q (.ref p) H2
end Sw
namespace Sw
open PySem PySem.Spec PyProof.Rows L2 Evl
section
variable {K : PySem.W.Frag} {σ : L2.St} {H H' : Hp} {ta tb te tx : TE} {x y z v : V} {a C dx : Addr} {fs : List (Str × V)} {f m : Str} {D : Ends} {tz : TS}
/-- o.f = e -/
theorem q_fld (h : Ev te σ H v) (ho : ∀ H1, Ex H H1 → Ev ta σ H1 (.ref a)) (hx : H a = some (.ins C dx fs)) (c : Cls K C) (n : NoAttr K C f) (hl : fs.length < 1000) (k : ∀ H1, Ex H H1 → tz D σ (upd H1 a (.ins C dx (putF f v fs)))) : tSeq (sFld K ta te f) tz D σ H :=
  h H (Ex.refl H) _ fun H1 e1 => ho H1 e1 H1 (Ex.refl H1) _ fun H2 e2 => ⟨a, C, dx, fs, rfl, e2 _ _ (e1 _ _ hx), c, n, hl, k H2 (e1.trans e2)⟩
theorem s_fld (h : Ev te σ H v) (ho : ∀ H1, Ex H H1 → Ev ta σ H1 (.ref a)) (hx : H a = some (.ins C dx fs)) (c : Cls K C) (n : NoAttr K C f) (hl : fs.length < 1000) (k : ∀ H1, Ex H H1 → D.nx σ (upd H1 a (.ins C dx (putF f v fs)))) : sFld K ta te f D σ H :=
  h H (Ex.refl H) _ fun H1 e1 => ho H1 e1 H1 (Ex.refl H1) _ fun H2 e2 => ⟨a, C, dx, fs, rfl, e2 _ _ (e1 _ _ hx), c, n, hl, k H2 (e1.trans e2)⟩
theorem q_fldL {xs : List V} (h : EvL te σ H xs) (ho : ∀ H1, Ex H H1 → Ev ta σ H1 (.ref a)) (hx : H a = some (.ins C dx fs)) (c : Cls K C) (n : NoAttr K C f) (hl : fs.length < 1000) (k : ∀ p H1, H p = none → Ex H H1 → H1 p = some (.lst xs) → tz D σ (upd H1 a (.ins C dx (putF f (.ref p) fs)))) : tSeq (sFld K ta te f) tz D σ H :=
  h H (Ex.refl H) _ fun p H1 hp e1 h1 => ho H1 e1 H1 (Ex.refl H1) _ fun H2 e2 => ⟨a, C, dx, fs, rfl, e2 _ _ (e1 _ _ hx), c, n, hl, k p H2 hp (e1.trans e2) (e2 _ _ h1)⟩
theorem s_fldL {xs : List V} (h : EvL te σ H xs) (ho : ∀ H1, Ex H H1 → Ev ta σ H1 (.ref a)) (hx : H a = some (.ins C dx fs)) (c : Cls K C) (n : NoAttr K C f) (hl : fs.length < 1000) (k : ∀ p H1, H p = none → Ex H H1 → H1 p = some (.lst xs) → D.nx σ (upd H1 a (.ins C dx (putF f (.ref p) fs)))) : sFld K ta te f D σ H :=
  h H (Ex.refl H) _ fun p H1 hp e1 h1 => ho H1 e1 H1 (Ex.refl H1) _ fun H2 e2 => ⟨a, C, dx, fs, rfl, e2 _ _ (e1 _ _ hx), c, n, hl, k p H2 hp (e1.trans e2) (e2 _ _ h1)⟩
theorem s_fldU {xs : List V} (h : EvU te σ H xs) (ho : ∀ H1, Ex H H1 → Ev ta σ H1 (.ref a)) (hx : H a = some (.ins C dx fs)) (c : Cls K C) (n : NoAttr K C f) (hl : fs.length < 1000) (k : ∀ p H1, H p = none → Ex H H1 → H1 p = some (.tup xs) → D.nx σ (upd H1 a (.ins C dx (putF f (.ref p) fs)))) : sFld K ta te f D σ H :=
  h H (Ex.refl H) _ fun p H1 hp e1 h1 => ho H1 e1 H1 (Ex.refl H1) _ fun H2 e2 => ⟨a, C, dx, fs, rfl, e2 _ _ (e1 _ _ hx), c, n, hl, k p H2 hp (e1.trans e2) (e2 _ _ h1)⟩
/-- the heap, the one object at x forgotten -/
def wo (H : Hp) (x : Addr) : Hp := fun b => if b = x then none else H b
theorem wo_self {H : Hp} {x : Addr} : wo H x x = none := by unfold wo; rw [if_pos rfl]
theorem wo_ne {H : Hp} {x b : Addr} (h : b ≠ x) : wo H x b = H b := by unfold wo; rw [if_neg h]
theorem wo_ex {H : Hp} {x : Addr} : Ex (wo H x) H := fun b o h => by
  by_cases e : b = x
  · rw [e, wo_self] at h; cases h
  · rwa [wo_ne e] at h
theorem wo_t {H : Hp} {x a : Addr} {xs : List V} {o : HO} (hx : H x = some o) (ho : ∀ u v, o ≠ .frz u v) (hn : ∀ ys, o ≠ .tup ys) (h : SqT K H a xs) : SqT K (wo H x) a xs := by
  rcases h with (h | ⟨u, h⟩) | h
  · refine .inl (.inl ?_)
    rw [wo_ne]
    · exact h
    · intro e; rw [e, hx] at h; exact hn xs (Option.some.inj h)
  · refine .inl (.inr ⟨u, ?_⟩)
    rw [wo_ne]
    · exact h
    · intro e; rw [e, hx] at h; exact ho u _ (Option.some.inj h)
  · exact .inr h
end
end Sw
namespace Sw
open PySem PySem.Spec PyProof.Rows L2 Evl
/-! ### walks of three, and of a tuple's items with their numbers -/
section
variable {K : PySem.W.Frag} {σ : L2.St} {H H' : Hp} {ta tb te tx tl : TE} {x y z v : V} {a b c : Addr} {xs ys zs : List V} {n : Nat}
def YTrip (xs ys zs : List V) : Nat → Hp → V → Hp → Prop := fun i H v H' => ∃ T x y z, v = .ref T ∧ H T = none ∧ H' = upd H T (.tup [x, y, z]) ∧ xs[i]? = some x ∧ ys[i]? = some y ∧ zs[i]? = some z
theorem walk_zip3 (lx : xs.length = n) (ly : ys.length = n) (lz : zs.length = n) : Walk (Itz3 K a b c) n (fun H => SqT K H a xs ∧ SqT K H b ys ∧ SqL K H c zs) (YTrip xs ys zs) := by
  refine ⟨fun i _ hi q => ⟨xs, ys, zs, xs[i]'(by omega), ys[i]'(by omega), zs[i]'(by omega), q.1, q.2.1, q.2.2, by simp, by simp, by simp⟩, fun _ q => ⟨xs, ys, zs, q.1, q.2.1, q.2.2, lx, ly, lz⟩, fun i H v H' _ q h => ?_⟩
  obtain ⟨T, x, y, z, h1, h2, h3, h4, h5, h6⟩ := h
  exact ⟨T, x, y, z, h1, h2, h3, h4 xs q.1, h5 ys q.2.1, h6 zs q.2.2⟩
theorem walk_enumT : Walk (IteT K a) xs.length (fun H => SqT K H a xs) (YPair (fun i => some (.int (i : Nat))) (fun i => xs[i]?)) := by
  refine ⟨fun i _ hi q => ⟨xs, xs[i], q, by simp⟩, fun _ q => ⟨xs, q, rfl⟩, fun i H v H' _ q h => ?_⟩
  obtain ⟨T, x, h1, h2, h3, h4⟩ := h
  exact ⟨T, .int (i : Nat), x, h1, h2, h3, rfl, h4 xs q⟩
variable {D : Ends} {tu tz : TS}
theorem q_forZ3 {tt : TA} {j1 j2 j3 : Nat} {G : Hp} (h : EvA tt σ H [.ref a, .ref b, .ref c]) (eG : Ex G H) (hx : SqT K G a xs) (hy : SqT K G b ys) (hz : SqL K G c zs) (lx : xs.length = n) (ly : ys.length = n) (lz : zs.length = n)
    (Pv : Nat → L2.St → Hp → Prop) (h0 : ∀ H1, Ex H H1 → Pv 0 σ H1) (hG : ∀ i σ' H', i ≤ n → Pv i σ' H' → Ex G H')
    (hs : ∀ i x y z σ' H', xs[i]? = some x → ys[i]? = some y → zs[i]? = some z → Pv i σ' H' → ∀ H2, Ex H' H2 → tu { D with nx := Pv (i + 1), ct := Pv (i + 1), bk := tz D } (((σ'.set j1 (some x)).set j2 (some y)).set j3 (some z)) H2)
    (hd : ∀ σ' H', Pv n σ' H' → tz D σ' H') : tSeq (tFor (iZip3 K tt) (gTup K 3 (gCons (gName j1) (gCons (gName j2) (gCons (gName j3) gNil)))) tu) tz D σ H :=
  h H (Ex.refl H) _ fun H1 e1 => ⟨a, b, c, xs, ys, zs, rfl, ex_t (eG.trans e1) hx, ex_t (eG.trans e1) hy, ex_l (eG.trans e1) hz,
    for_it (walk_zip3 lx ly lz) Pv (h0 H1 e1) (fun i σ' H' hi p => ⟨ex_t (hG i σ' H' hi p) hx, ex_t (hG i σ' H' hi p) hy, ex_l (hG i σ' H' hi p) hz⟩)
      (fun i v σ' H' H2 hi p q => by
        obtain ⟨T, x, y, z, rfl, hT, rfl, q1, q2, q3⟩ := q
        exact ⟨T, [x, y, z], rfl, st_of upd_same, rfl, x, [y, z], rfl, y, [z], rfl, z, [], rfl, rfl, hs i x y z σ' H' q1 q2 q3 p _ (Ex.new hT)⟩) hd⟩
/-- for i, x in enumerate(t), t a tuple -/
theorem s_forEnT {tt : TA} {j1 j2 : Nat} (h : EvA tt σ H [.ref a]) (hx : SqT K H a xs)
    (Pv : Nat → L2.St → Hp → Prop) (h0 : ∀ H1, Ex H H1 → Pv 0 σ H1) (hG : ∀ i σ' H', i ≤ xs.length → Pv i σ' H' → Ex H H')
    (hs : ∀ i x σ' H', xs[i]? = some x → Pv i σ' H' → ∀ H2, Ex H' H2 → tu { D with nx := Pv (i + 1), ct := Pv (i + 1), bk := D.nx } ((σ'.set j1 (some (.int (i : Nat)))).set j2 (some x)) H2)
    (hd : ∀ σ' H', Pv xs.length σ' H' → D.nx σ' H') : tFor (iEnumT K tt) (gTup K 2 (gCons (gName j1) (gCons (gName j2) gNil))) tu D σ H :=
  h H (Ex.refl H) _ fun H1 e1 => ⟨a, xs, rfl, ex_t e1 hx,
    for_it walk_enumT Pv (h0 H1 e1) (fun i σ' H' hi p => ex_t (hG i σ' H' hi p) hx)
      (fun i v σ' H' H2 hi p q => by
        obtain ⟨T, x, y, rfl, hT, rfl, q1, q2⟩ := q
        cases q1
        exact ⟨T, [.int (i : Nat), y], rfl, st_of upd_same, rfl, .int (i : Nat), [y], rfl, y, [], rfl, rfl, hs i y σ' H' q2 p _ (Ex.new hT)⟩) hd⟩
/-- [e for i, x in enumerate(t)] -/
theorem el_lcEnT {tt : TA} {j1 j2 : Nat} {vs : List Nat} (v : Nat → V) (h : EvA tt σ H [.ref a]) (hx : SqT K H a xs) (hz : xs.length ≤ 40000)
    (hw : ∀ x y, wipe (((wipe σ vs).set j1 (some x)).set j2 (some y)) vs = wipe σ vs)
    (he : ∀ (i : Nat) (x : V) H1, Ex H H1 → xs[i]? = some x → Ev te (((wipe σ vs).set j1 (some (.int (i : Nat)))).set j2 (some x)) H1 (v i)) :
    EvL (tLc (iEnumT K tt) (gTup K 2 (gCons (gName j1) (gCons (gName j2) gNil))) tYes te vs) σ H ((List.range xs.length).map v) := fun H0 e0 Q q =>
  h H0 e0 _ fun H1 e1 => ⟨a, xs, rfl, ex_t (e0.trans e1) hx, fun Dl hD => by
    rw [← given_all] at q
    refine lc_it (walk_enumT (xs := xs)) (Cw H1 (fun _ => true) v Dl) ⟨hD, Ex.new hD, upd_same⟩ (fun i H' _ p => ex_t ((e0.trans e1).trans p.2.1) hx) (fun i w H' H2 hi p y => ?_) (fun H' p => q Dl H' (fresh_back e1 p.1) (e1.trans p.2.1) p.2.2)
    obtain ⟨T, x, y, rfl, hT, rfl, q1, q2⟩ := y
    cases q1
    have p2 : Cw H1 (fun _ => true) v Dl i (upd H' T (.tup [.int (i : Nat), y])) := ⟨p.1, p.2.1.trans (Ex.new hT), by rw [upd_ne (ne_of_none p.2.2 hT)]; exact p.2.2⟩
    refine ⟨T, [.int (i : Nat), y], rfl, st_of upd_same, rfl, .int (i : Nat), [y], rfl, y, [], rfl, rfl, hw _ _, ?_⟩
    exact cw_turn p2 (by omega) et_yes (fun _ => he i y H1 (e0.trans e1) q2)⟩
/-- some tuple, some list of these items -/
def EvW (K : PySem.W.Frag) (te : TE) (σ : L2.St) (H : Hp) (xs : List V) : Prop := ∀ H1, Ex H H1 → ∀ Q : VK, (∀ p H2, Ex H1 H2 → SqT K H2 p xs → Q (.ref p) H2) → te σ H1 Q
def EvM (K : PySem.W.Frag) (te : TE) (σ : L2.St) (H : Hp) (xs : List V) : Prop := ∀ H1, Ex H H1 → ∀ Q : VK, (∀ p H2, Ex H1 H2 → SqL K H2 p xs → Q (.ref p) H2) → te σ H1 Q
theorem EvU.w (h : EvU te σ H xs) : EvW K te σ H xs := fun H1 e Q q => h H1 e Q fun p H2 _ e2 hp => q p H2 e2 (st_of hp)
theorem EvL.m (h : EvL te σ H xs) : EvM K te σ H xs := fun H1 e Q q => h H1 e Q fun p H2 _ e2 hp => q p H2 e2 (sq_of hp)
theorem ew_of (h : Ev te σ H (.ref a)) (hx : SqT K H a xs) : EvW K te σ H xs := fun H1 e Q q => h H1 e Q fun H2 e2 => q a H2 e2 (ex_t (e.trans e2) hx)
theorem em_of (h : Ev te σ H (.ref a)) (hx : SqL K H a xs) : EvM K te σ H xs := fun H1 e Q q => h H1 e Q fun H2 e2 => q a H2 e2 (ex_l (e.trans e2) hx)
theorem ev_sumW {ns : List Int} (h : EvW K ta σ H (ns.map V.int)) : Ev (tCB (rSumT K) (tCons ta tNil)) σ H (.int ns.sum) := fun H1 e Q q =>
  h H1 e _ fun p H2 e2 h2 => ⟨p, ns, rfl, h2, q H2 e2⟩
theorem ev_sumM {ns : List Int} (h : EvM K ta σ H (ns.map V.int)) : Ev (tCB (rSum K) (tCons ta tNil)) σ H (.int ns.sum) := fun H1 e Q q =>
  h H1 e _ fun p H2 e2 h2 => ⟨p, ns, rfl, h2, q H2 e2⟩
/-- t[:k] -/
theorem ew_take {th : TE} {k : Nat} (h : EvW K te σ H xs) (hk : Ev th σ H (.int (k : Int))) : EvW K (tSl (rSlA K) te tNoPart (tPart th)) σ H (xs.take k) := fun H1 e Q q =>
  h H1 e _ fun p H2 e2 h2 => hk H2 (e.trans e2) _ fun H3 e3 => ⟨(k : Int), rfl, p, xs, rfl, ex_t e3 h2, fun w => by
      have hi : min k xs.length = xs.length := by rw [← HT.sIx_nat xs.length xs.length k]; exact w.2
      have t : xs.take k = xs := List.take_of_length_le (by omega)
      rw [t] at q
      exact q p H3 (e2.trans e3) (ex_t e3 h2), fun _ r hr => by
      refine q r _ ((e2.trans e3).trans (Ex.new hr)) (st_of ?_)
      rw [upd_same]
      unfold cutV
      rw [HT.sIx_none, HT.sIx_nat]
      simp⟩
/-- xs[:k] of a list -/
theorem el_take {th : TE} {k : Nat} (h : EvM K te σ H xs) (hk : Ev th σ H (.int (k : Int))) : EvL (tSl (rSlL K) te tNoPart (tPart th)) σ H (xs.take k) := fun H1 e Q q =>
  h H1 e _ fun p H2 e2 h2 => hk H2 (e.trans e2) _ fun H3 e3 => ⟨(k : Int), rfl, p, xs, rfl, ex_l e3 h2, fun r hr => by
      refine q r _ (fresh_back (e2.trans e3) hr) ((e2.trans e3).trans (Ex.new hr)) ?_
      rw [upd_same]
      unfold cutV
      rw [HT.sIx_none, HT.sIx_nat]
      simp⟩
end
end Sw
namespace Sw
open PySem PySem.Spec PyProof.Rows L2 Evl
/-! ### max of a tuple of numbers -/
section
variable {prog : Program} {w : World} {A : Around} {E : Value → Shared → Prop} {s : Shared} {t : Addr} {xs : Array (Int × Tok)}
theorem max_intTup {Q : Value → Shared → Prop} (hh : A.handled = none) (ht : s.heap.IsTuple t (intItems xs)) (hne : 0 < xs.size)
    (h : ∀ v h' tk, (intItems xs)[argBest (fun i j => decide (numAt xs i > numAt xs j)) (xs.size - 1)]? = some v → (∀ b o, s.heap.get? b = some o → h'.get? b = some o) → Q v { s with heap := h', toks := tk }) :
    wpAny (model prog w) A (call (.builtin "max") [.ref t]) Q E s := by
  obtain ⟨o, ho, _, _, _⟩ := id ht
  have hlt : t < s.heap.objs.size := Heap.lt_size ho
  have hne' : t ≠ s.heap.objs.size := Nat.ne_of_lt hlt
  refine call_max_walk (wpAny_pyIter_tuple ht ?_)
  refine ⟨_, _, _, _, _, _, _, rfl, Walks.tuple (A := A.in1) hh _ t hne' (intItems xs), ⟨⟨_, Heap.get?_push_size _ rfl, rfl, rfl⟩, ht.at fun o e => Heap.get?_push_of_some _ e⟩, fun b hb => ?_, by simpa [intItems] using hne, CmpOf.ints_gt (numAt xs) (fun _ _ => intItems_at), fun v h' tk hP hk => ?_⟩
  · show b < (s.heap.push _).objs.size
    rw [Heap.size_push]
    rcases List.mem_cons.mp hb with rfl | hb
    · exact Nat.lt_succ_self _
    · rw [List.mem_singleton.mp hb]; exact Nat.lt_succ_of_lt hlt
  · refine h v h' tk (by simpa [intItems] using hP) fun b o e => hk b o (fun hm => ?_) (Heap.get?_push_of_some _ e)
    exact absurd (List.mem_singleton.mp hm ▸ Heap.lt_size e) (Nat.lt_irrefl _)
end
section
variable {X : Cx}
def rMaxT (K : PySem.W.Frag) : List V → Hp → VK → Prop := fun vs H Q => ∃ (a : Addr) (ns : List Int), vs = [V.ref a] ∧ SqT K H a (ns.map V.int) ∧ 0 < ns.length ∧ ∀ m, m ∈ ns → (∀ y, y ∈ ns → y ≤ m) → Q (.int m) H
theorem cr_maxT (hc : X.calm = true) : CallR X (.builtin "max") (rMaxT X.K) := by
  intro pins s σ H vs us Q I r h
  obtain ⟨a, ns, rfl, hs, hne, q⟩ := h
  obtain ⟨its, rv, hl, _⟩ := I.tuple hs
  rw [Vals.ref1 r]
  obtain ⟨xs, e⟩ := rv.ints.allInts.items
  have hn : numsOf (intItems xs).toList = ns := by rw [← e]; exact rv.ints.numsOf
  rw [nums_intItems] at hn
  subst hn
  have hl' : s.heap.IsTuple a (intItems xs) := by rw [← e]; exact hl
  have hsz : 0 < xs.size := by simpa using hne
  refine max_intTup (I.ok.hd hc) hl' hsz fun v h' tk hv hk => ?_
  obtain ⟨t', rfl⟩ := intItems_at hv
  obtain ⟨h1, h2⟩ := argBest_gt (numAt xs) (xs.size - 1)
  refine ⟨.int _, H, I.kept hk, ⟨t', rfl⟩, q _ ?_ fun y hy => ?_⟩
  · rw [numAt_eq]; exact PySem.getD_mem (by rw [List.length_map, Array.length_toList]; omega)
  · obtain ⟨j, hj, rfl⟩ := mem_getD hy
    rw [List.length_map, Array.length_toList] at hj
    rw [← numAt_eq]; exact h2 j (by omega)
end
theorem ev_maxT {K : PySem.W.Frag} {σ : L2.St} {H : Hp} {ta : TE} {a : Addr} {ns : List Int} {Qm : Int → Prop} (h : Ev ta σ H (.ref a)) (hx : SqT K H a (ns.map V.int)) (h0 : 0 < ns.length) :
    ∀ H1, Ex H H1 → ∀ Q : VK, (∀ m H2, Ex H1 H2 → m ∈ ns → (∀ y ∈ ns, y ≤ m) → Q (.int m) H2) → tCB (rMaxT K) (tCons ta tNil) σ H1 Q := fun H1 e Q q =>
  h H1 e _ fun H2 e2 => ⟨a, ns, rfl, ex_t (e.trans e2) hx, h0, fun m hm hle => q m H2 e2 hm hle⟩
end Sw
namespace Sw
open PySem PySem.Spec PyProof.Rows L2 Evl
section
variable {K : PySem.W.Frag} {σ : L2.St} {H H' : Hp} {ta tb te tl : TE} {x y z v : V} {a b : Addr} {xs ys : List V}
theorem ev_isN (h : Ev ta σ H x) : Ev (tIsN ta) σ H (.bl (decide (x = .non))) := fun H1 e1 Q q => h H1 e1 _ fun H2 e2 => q H2 e2
theorem ev_eqNil (ha : EvL ta σ H xs) (hb : EvL tb σ H []) (hx : xs = []) : Ev (tOp (rEqD K) ta tb) σ H (.bl true) := ev_opLL ha hb fun p q H1 hp hq _ => fun H2 e2 Q k => by
  subst hx
  exact ⟨.list [], .list [], .lst (sq_of (e2 _ _ hp)) .nil, .lst (sq_of (e2 _ _ hq)) .nil, by decide, by decide, by
    have : PyData.eqv (.list []) (.list []) = true := by decide
    rw [this]; exact k H2 (Ex.refl _)⟩
theorem given_none {n : Nat} {f : Nat → Bool} {v : Nat → V} (h : ∀ i, i < n → f i = false) : given n f v = [] := by
  unfold given
  have : (List.range n).filter f = [] := List.filter_eq_nil_iff.mpr fun i hi => by rw [h i (List.mem_range.mp hi)]; decide
  rw [this]; rfl
/-- two new lists, joined -/
theorem el_catN (ha : EvL ta σ H xs) (hb : EvL tb σ H ys) (hz : xs.length + ys.length ≤ 100000) : EvL (tOp rCat ta tb) σ H (xs ++ ys) := fun H1 e Q q =>
  ha H1 e _ fun p H2 _ e2 hp => hb H2 (e.trans e2) _ fun r H3 _ e3 hr => ⟨p, r, xs, ys, rfl, rfl, e3 _ _ hp, hr, sz_of hz, fun t ht => q t _ (fresh_back (e2.trans e3) ht) ((e2.trans e3).trans (Ex.new ht)) upd_same⟩
theorem el_lcRb {t : TA} {j : Nat} {vs : List Nat} {lo n : Int} (v : Nat → V) (h : EvA t σ H [.int lo, .int n]) (hn : 0 ≤ lo ∧ lo ≤ 10000 ∧ 0 ≤ n ∧ n ≤ 10000) (hw : ∀ x, wipe ((wipe σ vs).set j (some x)) vs = wipe σ vs)
    (he : ∀ (i : Nat) H1, Ex H H1 → lo + (i : Int) < n → Ev te ((wipe σ vs).set j (some (.int (lo + (i : Int))))) H1 (v i)) : EvL (tLc (iRng2 t) (gName j) tYes te vs) σ H ((List.range (n - lo).toNat).map v) := fun H0 e Q q => h H0 e _ fun H1 e1 => by
  rw [← given_all] at q
  exact ⟨lo, n, rfl, ⟨by omega, by omega, by omega, by omega⟩, fun Dl hD =>
    lc_range (lo := lo) (n := (n - lo).toNat) (Cw H1 (fun _ => true) v Dl) ⟨hD, Ex.new hD, upd_same⟩ (fun i H' hi p => ⟨hw _, cw_turn p (by omega) et_yes (fun _ => he i H1 (e.trans e1) (by omega))⟩) (fun H' p => q Dl H' (fresh_back e1 p.1) (e1.trans p.2.1) p.2.2)⟩
end
end Sw
namespace Sw
open PySem PySem.Spec PyProof.Rows L2 Evl
/-- the heap, the objects of N forgotten -/
noncomputable def wn (H : Hp) (N : Addr → Prop) : Hp := fun b => @ite _ (N b) (Classical.propDecidable _) none (H b)
theorem wn_in {H : Hp} {N : Addr → Prop} {b : Addr} (h : N b) : wn H N b = none := by unfold wn; rw [if_pos h]
theorem wn_ni {H : Hp} {N : Addr → Prop} {b : Addr} (h : ¬ N b) : wn H N b = H b := by unfold wn; rw [if_neg h]
theorem wn_some {H : Hp} {N : Addr → Prop} {b : Addr} {o : HO} (h : wn H N b = some o) : ¬ N b ∧ H b = some o := by
  by_cases q : N b
  · rw [wn_in q] at h; cases h
  · rw [wn_ni q] at h; exact ⟨q, h⟩
theorem wn_ex {H : Hp} {N : Addr → Prop} : Ex (wn H N) H := fun _ _ h => (wn_some h).2
theorem wn_mono {H H' : Hp} {N : Addr → Prop} (e : Ex H H') : Ex (wn H N) (wn H' N) := fun b o h => by
  obtain ⟨q, h1⟩ := wn_some h
  rw [wn_ni q]; exact e b o h1
theorem wn_upd {H : Hp} {N : Addr → Prop} {x : Addr} {o : HO} (hx : N x) : Ex (wn H N) (wn (upd H x o) N) := fun b u h => by
  obtain ⟨q, h1⟩ := wn_some h
  have nb : b ≠ x := fun z => q (by rw [z]; exact hx)
  rw [wn_ni q, upd_ne nb]; exact h1
theorem wn_sub {H : Hp} {N M : Addr → Prop} (h : ∀ b, N b → M b) : Ex (wn H M) (wn H N) := fun b o q => by
  obtain ⟨q1, h1⟩ := wn_some q
  rw [wn_ni fun z => q1 (h b z)]; exact h1
theorem wn_t {K : PySem.W.Frag} {H : Hp} {N : Addr → Prop} {a : Addr} {xs : List V} (ha : ¬ N a) (h : SqT K H a xs) : SqT K (wn H N) a xs := by
  rcases h with (h | ⟨u, h⟩) | h
  · exact .inl (.inl (by rw [wn_ni ha]; exact h))
  · exact .inl (.inr ⟨u, by rw [wn_ni ha]; exact h⟩)
  · exact .inr h
def nx (x : Addr) (N : Addr → Prop) : Addr → Prop := fun b => b = x ∨ N b
theorem wn_tx {K : PySem.W.Frag} {H : Hp} {N : Addr → Prop} {x a C dx : Addr} {fs : List (Str × V)} {xs : List V} (hx : H x = some (.ins C dx fs)) (h : SqT K (wn H N) a xs) : SqT K (wn H (nx x N)) a xs := by
  have go : ∀ u, wn H N a = some u → (∀ C dx fs, u ≠ .ins C dx fs) → wn H (nx x N) a = some u := fun u hu hne => by
    obtain ⟨q, h1⟩ := wn_some hu
    rw [wn_ni]
    · exact h1
    · rintro (e | e)
      · rw [e, hx] at h1; exact hne _ _ _ (Option.some.inj h1).symm
      · exact q e
  rcases h with (h | ⟨u, h⟩) | h
  · exact .inl (.inl (go _ h (fun _ _ _ q => nomatch q)))
  · exact .inl (.inr ⟨u, go _ h (fun _ _ _ q => nomatch q)⟩)
  · exact .inr h
end Sw
namespace Sw
open PySem PySem.Spec PyProof.Rows L2 Evl LamX NdefX
/-! ### lambdas that capture names: their objects -/
structure LF where
  qual : Str
  params : Arguments
  body : Expr
  scope : Scope
  cl : List (Str × Addr)
  c : Addr
  dv : Value
abbrev LF.fd (F : LF) (pm ctv : Value) : FuncData := { PySem.W.kla_fn "<lambda>" F.qual F.params F.body F.scope F.cl pm (.ref F.c) ctv with defaults := F.dv }
abbrev LF.nf (F : LF) : NF := ⟨"<lambda>", F.qual, F.params, [], F.scope, F.cl, F.c⟩
def LamO (f : Addr) (F : LF) : HO := .ext fun h => ∃ (od : Option Addr) (sl : Array (Option Value)) (pm ctv : Value), h.get? f = some (⟨.type "function", od, .func (F.fd pm ctv), sl⟩ : Obj)
theorem lamO_at {P : Program} {w : World} {H : Hp} {h : Heap} {f : Addr} {F : LF} (hok : HOk P w H h) (e : H f = some (LamO f F)) : ∃ (od : Option Addr) (sl : Array (Option Value)) (pm ctv : Value), h.get? f = some (⟨.type "function", od, .func (F.fd pm ctv), sl⟩ : Obj) := (hok f _ e).1
theorem lamO_tbl {f : Addr} {F : LF} (ps : Array Value) : LamO f F ≠ .tbl ps := fun z => by unfold LamO at z; cases z
/-! ### the end of a function's making, whatever its defaults -/
section
variable {M : Model} {A : Around} {E Q : Value → Shared → Prop} {s : Shared} {nm ql : Str} {pr : Arguments} {bd : Expr} {sc : Scope} {en : Env} {cc TP : Addr} {ts : Array Value} {po : Pos} {ln : Nat} {mg : Str → Option Value} {cl : List (Str × Addr)} {dv : Value}
abbrev fnDv (ql : Str) (pr : Arguments) (bd : Expr) (sc : Scope) (cl : List (Str × Addr)) (nm : Str) (pm c ct dv : Value) : FuncData := { PySem.W.kla_fn nm ql pr bd sc cl pm c ct with defaults := dv }
theorem tail_hit {cv : Value} (a1 : closureFor sc en = pure cl) (a2 : en.globals = mainGlobals) (a3 : s.heap.Ns mainGlobals mg) (a4 : en.code = .ref cc) (a5 : PySem.W.CodeHd s.heap cc TP) (a6 : s.heap.get? TP = some (PySem.W.tabObj ts)) (a7 : TriplesOk ts.toList) (a8 : codeAmong po ts.toList = some cv) (a9 : s.heap.BuiltinsAt mg TP)
    (k : ∀ (ct : Value) (g : Heap) (n : Tok), (∀ b o, s.heap.get? b = some o → g.get? b = some o) → s.heap.objs.size ≤ g.objs.size → Q (.ref g.objs.size) { s with heap := g.push { cls := .type "function", data := .func (fnDv ql pr bd sc cl nm ((mg "__name__").getD .none) cv ct dv) }, toks := n }) :
    wpAny M A (makeTail nm ql pr (.expr bd) sc en dv .none none po ln) Q E s := by
  obtain ⟨u1, u2, e1, e2, e3, e4, e5, e6, e7, e8⟩ := a9
  unfold makeTail; rw [a1, a2]; apply wpAny_bind; apply wpAny_pure
  rcases cl with _ | ⟨q, r⟩
  · rw [if_pos (List.isEmpty_nil)]
    apply wpAny_bind; apply wpAny_pure
    exact wpAny_bind (wpAny_functionCode_hit a4 (a5.code a6 a7) a8 (wpAny_bind (wpAny_builtinsFor a3 e1 e2 e5 e6 e7 e8 (wpAny_bind (wpAny_nsGet a3 (wpAny_bind (wpAny_pure (wpAny_newObj_type (k .none s.heap s.toks (fun _ _ e => e) (Nat.le_refl _)) (by size_fits)))))))))
  · rw [if_neg (by simp)]
    refine wpAny_bind (wpAny_newTextTuple ?_)
    exact wpAny_bind (wpAny_functionCode_hit a4 ((a5.keeps fun b o e => Heap.get?_push_of_some _ e).code (Heap.get?_push_of_some _ a6) a7) a8 (wpAny_bind (wpAny_builtinsFor (a3.push _) e1 e2 (Heap.get?_push_of_some _ e5) e6 e7 e8 (wpAny_bind (wpAny_nsGet (a3.push _)
      (wpAny_bind (wpAny_pure (wpAny_newObj_type (k _ _ s.toks (fun b o e => Heap.get?_push_of_some _ e) (by rw [Heap.size_push]; omega)) (by size_fits)))))))))
theorem tail_new (a1 : closureFor sc en = pure cl) (a2 : en.globals = mainGlobals) (a3 : s.heap.Ns mainGlobals mg) (a4 : en.code = .ref cc) (a5 : PySem.W.CodeHd s.heap cc TP) (a6 : s.heap.get? TP = some (PySem.W.tabObj ts)) (a7 : TriplesOk ts.toList) (a8 : codeAmong po ts.toList = none) (a0 : mainGlobals ≠ TP) (a9 : s.heap.BuiltinsAt mg TP)
    (k : ∀ c' ct g n, Heap.ExtBut TP s.heap g → s.heap.objs.size ≤ c' → c' < g.objs.size → g.CodeRec (.ref c') ql → g.get? TP = some (PySem.W.tabObj (ts ++ #[rawInt po.line, rawInt po.col, .ref c'])) → Q (.ref g.objs.size) { s with heap := g.push { cls := .type "function", data := .func (fnDv ql pr bd sc cl nm ((mg "__name__").getD .none) (.ref c') ct dv) }, toks := n }) :
    wpAny M A (makeTail nm ql pr (.expr bd) sc en dv .none none po ln) Q E s := by
  obtain ⟨u1, u2, e1, e2, e3, e4, e5, e6, e7, e8⟩ := a9
  unfold makeTail; rw [a1, a2]; apply wpAny_bind; apply wpAny_pure
  rcases cl with _ | ⟨q, r⟩
  · rw [if_pos (List.isEmpty_nil)]
    apply wpAny_bind; apply wpAny_pure
    refine wpAny_bind (wpAny_functionCodeX a4 (a5.code a6 a7) (a5.tab a6) a8 fun c' g n x1 x2 x3 _ x4 x5 _ => ?_)
    have a3' := a3.extBut x1 a0
    exact wpAny_bind (wpAny_builtinsFor a3' e1 e2 (x1 _ _ e4 e5) e6 e7 e8 (wpAny_bind (wpAny_nsGet a3' (wpAny_bind (wpAny_pure (wpAny_newObj_type (k c' .none g n x1 x2 x3 x4 x5.2) (by size_fits)))))))
  · rw [if_neg (by simp)]
    refine wpAny_bind (wpAny_newTextTuple ?_)
    have kp := a5.keeps fun b o e => Heap.get?_push_of_some { cls := .type "tuple", data := .seq (((q :: r).mergeSort fun a b => a.1.cps.toList ≤ b.1.cps.toList).map (Value.ref ·.2)).toArray } e
    refine wpAny_bind (wpAny_functionCodeX a4 (kp.code (Heap.get?_push_of_some _ a6) a7) (kp.tab (Heap.get?_push_of_some _ a6)) a8 fun c' g n x1 x2 x3 _ x4 x5 _ => ?_)
    have a3' := (a3.push _).extBut x1 a0
    have x1' : Heap.ExtBut TP s.heap g := fun b o hb e => x1 b o hb (Heap.get?_push_of_some _ e)
    have x2' : s.heap.objs.size ≤ c' := Nat.le_trans (by rw [Heap.size_push]; omega) x2
    exact wpAny_bind (wpAny_builtinsFor a3' e1 e2 (x1' _ _ e4 e5) e6 e7 e8 (wpAny_bind (wpAny_nsGet a3' (wpAny_bind (wpAny_pure (wpAny_newObj_type (k c' _ g n x1' x2' x3 x4 x5.2) (by size_fits)))))))
end
section
variable {X : Cx} {pins : List (Addr × Obj)} {σ : L2.St} {H : Hp} {s : Shared}
theorem inv_lam {F : LF} {o : Obj} {t' : Nat} {pm ctv : Value} (I : Inv X pins σ H s) (ho : o = { cls := .type "function", data := .func (F.fd pm ctv) }) : Inv X pins σ (upd H s.heap.objs.size (LamO s.heap.objs.size F)) { s with heap := s.heap.push o, toks := t' } := by
  subst ho
  refine I.laid (fun b u e => Heap.get?_push_of_some _ e) (Nat.le_refl _) ?_
  have g : (s.heap.push ({ cls := .type "function", data := .func (F.fd pm ctv) } : Obj)).get? s.heap.objs.size = some { cls := .type "function", data := .func (F.fd pm ctv) } := Heap.get?_push_size _ rfl
  exact ⟨⟨_, _, pm, ctv, g⟩, ⟨_, g⟩, fun _ _ ⟨od, sl, p, t, z⟩ st => ⟨od, sl, p, t, st _ z⟩⟩
/-- a lambda is made; its object and its code object are known from then on -/
theorem lam_tail {T : List NTab} {nm : Nat → Nat → Str} {c P : Addr} {params : Arguments} {body : Expr} {scope : Scope} {pos : Pos} {dv : Value} {E Q : Value → Shared → Prop} (I : Inv X pins σ H s) (TB : TabB X.base X.mg c P) (hcode : X.env.code = .ref c) (hm : (P, nm) ∈ T)
    (hn : nm pos.line pos.col = X.env.qual ++ "<lambda>") (hu : ∀ p ∈ T, p.1 = P → p.2 = nm) (hT : TabsN T H) (hfree : ∀ y ∈ scope.names, y.2 = .free → ∃ c, X.env.cells.lookup y.1 = some c)
    (fin : ∀ (f c' : Addr) (H1 : Hp) (s' : Shared), Inv X pins σ H1 s' → ExtN H H1 → (∀ b, H1 b = Option.none → H b = Option.none) → TabsN T H1 → H f = none → H1 f = some (LamO f ⟨X.env.qual ++ "<lambda>", params, body, scope, cloFrom X.env.cells scope.names [], c', dv⟩) → H1 c' = some (CodeO c' (X.env.qual ++ "<lambda>")) → Q (.ref f) s') :
    wpAny (model X.prog X.w) X.A (makeTail "<lambda>" (X.env.qual ++ "<lambda>") params (.expr body) scope X.env dv .none none pos pos.line) Q E s := by
  obtain ⟨ps, hP, ht, ha⟩ := (show TabN H P nm from hT _ hm)
  have bP : s.heap.BuiltinsAt X.mg P := TB.bm.keeps I.bk
  have gP : s.heap.get? P = some { cls := .none, data := .fields ps } := I.hok P _ hP
  cases hc : codeAmong pos ps.toList with
  | some cv =>
    obtain ⟨c', ecv, hco⟩ := ha pos cv hc
    subst ecv; rw [hn] at hco
    refine tail_hit (mg := X.mg) (closure_ok hfree) I.ok.glob (I.mod.glob.keeps I.bk) hcode (TB.code.keeps I.bk) gP ht hc bP fun ctv h' tk hx hsz => ?_
    have I1 : Inv X pins σ H { s with heap := h', toks := tk } := I.kept hx
    have nF : H h'.objs.size = none := I1.hok.fresh (Nat.le_refl _)
    have I2 := inv_lam (F := ⟨X.env.qual ++ "<lambda>", params, body, scope, cloFrom X.env.cells scope.names [], c', dv⟩) (t' := tk) (pm := (X.mg "__name__").getD .none) (ctv := ctv) I1 rfl
    have k1 : ∀ b o, H b = some o → upd H h'.objs.size (LamO h'.objs.size ⟨X.env.qual ++ "<lambda>", params, body, scope, cloFrom X.env.cells scope.names [], c', dv⟩) b = some o := fun b o e => (upd_ne (ne_of_none e nF)).trans e
    exact fin h'.objs.size c' _ _ I2 (fun b o e _ => k1 b o e) (fun b e => upd_none e) (hT.ext k1) nF upd_same (k1 _ _ hco)
  | none =>
    refine tail_new (mg := X.mg) (closure_ok hfree) I.ok.glob (I.mod.glob.keeps I.bk) hcode (TB.code.keeps I.bk) gP ht hc TB.gP bP fun c' ctv h' tk hx hge hlt hrec htb => ?_
    obtain ⟨c2, oc, vs, t, e2, hoc, hd, hv⟩ := hrec
    cases e2
    have nC : H c' = none := I.hok.fresh hge
    have I1 := inv_table (t' := tk) (more := #[rawInt pos.line, rawInt pos.col, .ref c']) (h' := h') I hP (fun b o hb e => hx b o hb e) htb hge ⟨oc, vs, t, hoc, hd, hv⟩
    have kE : ExtN H (upd (upd H P (.tbl (ps ++ #[rawInt pos.line, rawInt pos.col, .ref c']))) c' (CodeO c' (X.env.qual ++ "<lambda>"))) := fun b o e n => by
      rw [upd_ne (ne_of_none e nC), upd_ne (fun z => n ps (Option.some.inj (e.symm.trans (by rw [z]; exact hP))))]; exact e
    have aL : (ps ++ #[rawInt pos.line, rawInt pos.col, .ref c']).toList = ps.toList ++ [rawInt pos.line, rawInt pos.col, .ref c'] := by simp
    have T1 : TabsN T (upd (upd H P (.tbl (ps ++ #[rawInt pos.line, rawInt pos.col, .ref c']))) c' (CodeO c' (X.env.qual ++ "<lambda>"))) := fun p hp => by
      by_cases hb : p.1 = P
      · rw [hu p hp hb, hb]
        refine ⟨_, (upd_ne (ne_of_none hP nC)).trans upd_same, by rw [aL]; exact PySem.TriplesOk_snoc _ _ _ _ ht, fun p' cv hcv => ?_⟩
        rw [aL] at hcv
        rcases among_app2 _ ht hcv with z | ⟨z, z1, z2⟩
        · obtain ⟨c0, g1, g2⟩ := ha p' cv z; exact ⟨c0, g1, kE _ _ g2 codeO_ne⟩
        · exact ⟨c', z, by rw [← z1, ← z2, hn]; exact upd_same⟩
      · obtain ⟨ps', a1, a2, a3⟩ := hT p hp
        refine ⟨ps', by rw [upd_ne (ne_of_none a1 nC), upd_ne hb]; exact a1, a2, fun p' cv hcv => ?_⟩
        obtain ⟨c0, g1, g2⟩ := a3 p' cv hcv; exact ⟨c0, g1, kE _ _ g2 codeO_ne⟩
    have nF := I1.hok.fresh (Nat.le_refl _)
    have I2 := inv_lam (F := ⟨X.env.qual ++ "<lambda>", params, body, scope, cloFrom X.env.cells scope.names [], c', dv⟩) (t' := tk) (pm := (X.mg "__name__").getD .none) (ctv := ctv) I1 rfl
    exact fin h'.objs.size c' _ _ I2 (fun b o e n => (upd_ne (ne_of_none (kE b o e n) nF)).trans (kE b o e n)) (fun b e => upd_none (upd_none (upd_none e))) (T1.ext fun b o e => (upd_ne (ne_of_none e nF)).trans e)
      (I.hok.fresh (Nat.le_trans hge (Nat.le_of_lt hlt))) upd_same ((upd_ne (Nat.ne_of_lt hlt)).trans upd_same)
theorem lam_new {T : List NTab} {nm : Nat → Nat → Str} {c P : Addr} {params : Arguments} {body : Expr} {scope : Scope} {pos : Pos} {E Q : Value → Shared → Prop} (I : Inv X pins σ H s) (TB : TabB X.base X.mg c P) (hcode : X.env.code = .ref c) (hm : (P, nm) ∈ T)
    (hn : nm pos.line pos.col = X.env.qual ++ "<lambda>") (hu : ∀ p ∈ T, p.1 = P → p.2 = nm) (hT : TabsN T H) (hdef : defaultsOf params X.env = ([], [])) (hfree : ∀ y ∈ scope.names, y.2 = .free → ∃ c, X.env.cells.lookup y.1 = some c)
    (fin : ∀ (f c' : Addr) (H1 : Hp) (s' : Shared), Inv X pins σ H1 s' → ExtN H H1 → (∀ b, H1 b = Option.none → H b = Option.none) → TabsN T H1 → H f = none → H1 f = some (LamO f ⟨X.env.qual ++ "<lambda>", params, body, scope, cloFrom X.env.cells scope.names [], c', .none⟩) → H1 c' = some (CodeO c' (X.env.qual ++ "<lambda>")) → Q (.ref f) s') :
    wpAny (model X.prog X.w) X.A (eval (.Lambda params body scope pos) X.env) Q E s := by
  refine PySem.W.kla_eval hdef ?_
  rw [makeFunction_eq]
  simp only [List.zip_nil_right, List.filterMap_nil, List.isEmpty_nil, if_true, pure_bind]
  exact lam_tail I TB hcode hm hn hu hT hfree fin
end
/-- the reading of a lambda: a new function, its code known -/
def tLamE (T : List NTab) (mk : Addr → LF) : TE := fun σ H Q => TabsN T H ∧ ∀ (f c' : Addr) (H1 : Hp), ExtN H H1 → (∀ b, H1 b = Option.none → H b = Option.none) → TabsN T H1 → H f = none → H1 f = some (LamO f (mk c')) → H1 c' = some (CodeO c' (mk c').qual) → Q (.ref f) H1
theorem pe_lamE {X : Cx} {T : List NTab} {nm : Nat → Nat → Str} {c P : Addr} {params : Arguments} {body : Expr} {scope : Scope} {pos : Pos} (TB : TabB X.base X.mg c P) (hcode : X.env.code = .ref c) (hm : (P, nm) ∈ T) (hn : nm pos.line pos.col = X.env.qual ++ "<lambda>") (hu : ∀ p ∈ T, p.1 = P → p.2 = nm) (hdef : defaultsOf params X.env = ([], []))
    (hfree : ∀ y ∈ scope.names, y.2 = .free → X.env.scope.names.lookup y.1 = some .cell ∨ X.env.scope.names.lookup y.1 = some .free) : PE X (.Lambda params body scope pos) (tLamE T fun c' => ⟨X.env.qual ++ "<lambda>", params, body, scope, cloFrom X.env.cells scope.names [], c', .none⟩) := by
  refine ⟨fun pins s σ H Q I ⟨hT, h⟩ => ?_⟩
  exact lam_new I TB hcode hm hn hu hT hdef (fun y hy e => (hfree y hy e).elim (fun z => I.ok.has _ (.inl z)) fun z => I.ok.has _ (.inr z)) fun f c' H1 s' I1 e1 e2 e3 e4 e5 e6 => ⟨.ref f, H1, I1, rfl, h f c' H1 e1 e2 e3 e4 e5 e6⟩
/-! ### what may be called: a promise that goes with an address -/
/-- called in any state that has all of S, the function at f keeps the promise sp -/
def Cal (P : Program) (w : World) (K : PySem.W.Frag) (mg : Str → Option Value) (base : Heap) (CX : CXT) (k : Nat) (f : Addr) (sp : Sp) (S : Hp) : Prop :=
  (∃ F, S f = some (LamO f F)) ∧ ∀ (A : Around) (outer : List Env) (s : Shared) (H : Hp) (us : List Value) (vs : List V) (Q : VK) (E : XK), Ex S H → Room k A → Env0 P w K mg base A outer s H → Vals vs us → sp vs H Q E →
    codeAny (model P w) A (.call (.ref f) ⟨us, []⟩) (CR CX outer P w H s Q E) s
theorem Cal.mono {P : Program} {w : World} {K : PySem.W.Frag} {mg : Str → Option Value} {base : Heap} {CX : CXT} {k : Nat} {f : Addr} {sp : Sp} {S S' : Hp} (h : Cal P w K mg base CX k f sp S) (e : Ex S S') : Cal P w K mg base CX k f sp S' :=
  ⟨let ⟨F, z⟩ := h.1; ⟨F, e _ _ z⟩, fun A outer s H us vs Q E e2 => h.2 A outer s H us vs Q E (e.trans e2)⟩
def tCal (P : Program) (w : World) (K : PySem.W.Frag) (mg : Str → Option Value) (base : Heap) (CX : CXT) (k i : Nat) (E : XK) (t : TA) : TE := fun σ H Q => ∃ f sp S, σ[i]? = some (some (.ref f)) ∧ Cal P w K mg base CX k f sp S ∧ Ex S H ∧ t σ H fun vs H1 => Ex S H1 ∧ sp vs H1 Q E
section
variable {X : Cx} {CX : CXT} {i j k : Nat} {x : Str} {E : XK} {t : TA} {e : Expr} {es : List Expr} {p pos : Pos}
theorem lam_fnAt {pins : List (Addr × Obj)} {σ : L2.St} {H S : Hp} {s : Shared} {f : Addr} {sp : Sp} (I : Inv X pins σ H s) (C : Cal X.prog X.w X.K X.mg X.base CX k f sp S) (e : Ex S H) : PySem.W.FnAt f s.heap := by
  obtain ⟨F, z⟩ := C.1
  obtain ⟨od, sl, pm, ctv, ho⟩ := lamO_at I.hok (e _ _ z)
  exact ⟨_, od, _, sl, ho⟩
theorem run_cal {pins : List (Addr × Obj)} {σ : L2.St} {H S : Hp} {s : Shared} {f : Addr} {sp : Sp} {us : List Value} {vs : List V} {Q : VK} (I : Inv X pins σ H s) (C : Cal X.prog X.w X.K X.mg X.base CX k f sp S) (hr : Room k X.A) (hx : Passes CX X E) (eS : Ex S H) (r : Vals vs us) (q : sp vs H Q E) :
    wpAny (model X.prog X.w) X.A (call (.ref f) us) (EP X pins σ Q) X.xe s := by
  refine wpAny_call (codeAny_mono (C.2 X.A X.stack s H us vs Q E eS hr I.env0 r q) fun r s' hq => ?_)
  match r, hq with
  | .error e, hq => exact hx pins σ H s e s' I hq
  | .ok (.ret u), hq => exact I.after hq
  | .ok .next, hq => exact False.elim hq
  | .ok .brk, hq => exact False.elim hq
  | .ok .cont, hq => exact False.elim hq
theorem pe_cal (hr : Room j X.A) (hk : k ≤ j) (hx : Passes CX X E) (hN : X.N[i]? = some x) (hv : Vis X.env.scope x) (ha : PA X (e :: es) t) (hd : (x == ("__debug__" : Str)) = false := by decide) (hcd : (x == ("__classdict__" : Str)) = false := by decide)
    (he : starEach (e :: es) X.env = (false, eval e X.env) :: starEach es X.env := by rfl) (hpl : (backTo pos (starEach es X.env)).any (·.1) = false := by rfl) : PE X (.Call (.Name x p) (e :: es) [] pos) (tCal X.prog X.w X.K X.mg X.base CX k i E t) := by
  refine ⟨fun pins s σ H Q I ⟨f, sp, S, hs, C, eS, ht⟩ => ?_⟩
  refine wpAny_Call_Name_kw (thn ((pe_var (pos := p) hN hv hd hcd).run pins s σ H (fun v H1 => v = .ref f ∧ H1 = H) I ⟨.ref f, hs, rfl, rfl⟩) fun u s1 ⟨v, H1, I1, r1, ev, eH⟩ => ?_)
  subst ev eH
  obtain rfl : u = Value.ref f := r1
  exact PySem.W.callWith_F (first := []) (lam_fnAt I1 C eS) (thn (ha.run pos pins s1 σ H1 _ I1 ht) fun us s2 ⟨vs, H2, I2, r, e2, q⟩ => ⟨lam_fnAt I2 C e2, run_cal I2 C (hr.mono hk) hx e2 r q⟩) he hpl
theorem pe_cal0 (hr : Room j X.A) (hk : k ≤ j) (hx : Passes CX X E) (hN : X.N[i]? = some x) (hv : Vis X.env.scope x) (hd : (x == ("__debug__" : Str)) = false := by decide) (hcd : (x == ("__classdict__" : Str)) = false := by decide) :
    PE X (.Call (.Name x p) [] [] pos) (tCal X.prog X.w X.K X.mg X.base CX k i E tNil) := by
  refine ⟨fun pins s σ H Q I ⟨f, sp, S, hs, C, eS, e2, q⟩ => ?_⟩
  refine wpAny_Call_Name_kw (thn ((pe_var (pos := p) hN hv hd hcd).run pins s σ H (fun v H1 => v = .ref f ∧ H1 = H) I ⟨.ref f, hs, rfl, rfl⟩) fun u s1 ⟨v, H1, I1, r1, ev, eH⟩ => ?_)
  subst ev eH
  obtain rfl : u = Value.ref f := r1
  exact PySem.W.callWith_F0 (first := []) (lam_fnAt I1 C eS) (run_cal I1 C (hr.mono hk) hx e2 .nil q)
theorem pe_calE (P : Program) (w : World) (K : PySem.W.Frag) (mg : Str → Option Value) (base : Heap) (h1 : X.prog = P) (h2 : X.w = w) (h3 : X.K = K) (h4 : X.mg = mg) (h5 : X.base = base) (hr : Room j X.A) (hk : k ≤ j) (hx : Passes CX X E) (hN : X.N[i]? = some x) (hv : Vis X.env.scope x) (ha : PA X (e :: es) t)
    (hd : (x == ("__debug__" : Str)) = false := by decide) (hcd : (x == ("__classdict__" : Str)) = false := by decide) (he : starEach (e :: es) X.env = (false, eval e X.env) :: starEach es X.env := by rfl) (hpl : (backTo pos (starEach es X.env)).any (·.1) = false := by rfl) :
    PE X (.Call (.Name x p) (e :: es) [] pos) (tCal P w K mg base CX k i E t) := by
  subst h1 h2 h3 h4 h5
  exact pe_cal hr hk hx hN hv ha hd hcd he hpl
theorem pe_cal0E (P : Program) (w : World) (K : PySem.W.Frag) (mg : Str → Option Value) (base : Heap) (h1 : X.prog = P) (h2 : X.w = w) (h3 : X.K = K) (h4 : X.mg = mg) (h5 : X.base = base) (hr : Room j X.A) (hk : k ≤ j) (hx : Passes CX X E) (hN : X.N[i]? = some x) (hv : Vis X.env.scope x)
    (hd : (x == ("__debug__" : Str)) = false := by decide) (hcd : (x == ("__classdict__" : Str)) = false := by decide) : PE X (.Call (.Name x p) [] [] pos) (tCal P w K mg base CX k i E tNil) := by
  subst h1 h2 h3 h4 h5
  exact pe_cal0 hr hk hx hN hv hd hcd
end
end Sw
namespace Sw
open PySem PySem.Spec PyProof.Rows L2 Evl LamX NdefX
/-! ### cells that are known for a while: frozen for a callee -/
abbrev okT : HO := .ext fun _ => True
/-- of H, what N names is as H0 has it -/
noncomputable def mixN (N : Addr → Prop) (H0 H : Hp) : Hp := fun b => @ite _ (N b) (Classical.propDecidable _) (H0 b) (H b)
theorem mix_in {N : Addr → Prop} {H0 H : Hp} {b : Addr} (h : N b) : mixN N H0 H b = H0 b := by unfold mixN; rw [if_pos h]
theorem mix_ni {N : Addr → Prop} {H0 H : Hp} {b : Addr} (h : ¬ N b) : mixN N H0 H b = H b := by unfold mixN; rw [if_neg h]
structure Frz (X : Cx) (σ : L2.St) (H Hz : Hp) (N : Addr → Prop) : Prop where
  iff : ∀ b, N b ↔ ∃ y, X.env.cells.lookup y = some b
  out : ∀ b, ¬ N b → Hz b = H b
  off : ∀ b, N b → H b = Option.none
  inn : ∀ b, N b → ∃ o v, Hz b = some (.frz o okT) ∧ o.data = .cell v
  val : ∀ (i : Nat) (y : Str) (v : V) (c : Addr), X.N[i]? = some y → σ[i]? = some (some v) → (X.env.scope.names.lookup y = some .cell ∨ X.env.scope.names.lookup y = some .free) → X.env.cells.lookup y = some c → ∃ o u, Hz c = some (.frz o okT) ∧ o.data = .cell (some u) ∧ L2.RelV v u
  inj : ∀ x y c, X.env.cells.lookup x = some c → X.env.cells.lookup y = some c → x = y
  has : ∀ y, (X.env.scope.names.lookup y = some .cell ∨ X.env.scope.names.lookup y = some .free) → ∃ c, X.env.cells.lookup y = some c
theorem okT_ok {P : Program} {w : World} {H : Hp} {h : Heap} {a : Addr} {o : Obj} (e : h.get? a = some o) : ObjOk P w H h a (.frz o okT) := ⟨e, trivial, ⟨o, e⟩, fun _ _ _ _ => trivial⟩
/-- what is frozen, and how it comes back -/
theorem Frz.ex_ {X : Cx} {σ : L2.St} {H Hz : Hp} {N : Addr → Prop} (z : Frz X σ H Hz N) : Ex H Hz := fun b o e => by
  rw [z.out b (fun n => by rw [z.off b n] at e; cases e)]; exact e
theorem frz_env {X : Cx} {pins : List (Addr × Obj)} {σ : L2.St} {H : Hp} {s : Shared} (I : Inv X pins σ H s) (hfn : ∀ y, X.fn y = true) : ∃ Hz N, Frz X σ H Hz N ∧ Env0 X.prog X.w X.K X.mg X.base X.A X.stack s Hz ∧
    ∀ (Q : VK) (u : Value) (s' : Shared), CE X.stack X.prog X.w Hz s (fun v H2 => Q v (wn H2 N)) u s' → CE X.stack X.prog X.w H s Q u s' := by
  have cellOf : ∀ b, (∃ y, X.env.cells.lookup y = some b) → ∃ o v, s.heap.get? b = some o ∧ o.data = .cell v := fun b ⟨y, e⟩ => let ⟨v, o, h1, h2⟩ := I.cell y b e; ⟨o, v, h1, h2⟩
  let fz : Hp := fun b => (s.heap.get? b).map fun o => .frz o okT
  refine ⟨mixN (fun b => ∃ y, X.env.cells.lookup y = some b) fz H, fun b => ∃ y, X.env.cells.lookup y = some b, ?_, ?_, ?_⟩
  · refine ⟨fun b => Iff.rfl, fun b n => mix_ni n, fun b ⟨y, e⟩ => I.freeC y b e, fun b n => ?_, fun i y v c h1 h2 h3 h4 => ?_, I.ok.inj, I.ok.has⟩
    · obtain ⟨o, v, e1, e2⟩ := cellOf b n
      exact ⟨o, v, by rw [mix_in n]; show (s.heap.get? b).map _ = _; rw [e1]; rfl, e2⟩
    · obtain ⟨m, hn, hl⟩ := I.loc
      obtain ⟨u, r, l⟩ := hl i y v h1 h2 (h3.elim (fun z => .inr (.inl z)) fun z => .inr (.inr z))
      rcases l with ⟨z, _⟩ | ⟨_, a, ha, o, ho, hd⟩
      · have z' : X.env.scope.names.lookup y = some .local := z
        rcases h3 with k | k <;> rw [k] at z' <;> cases z'
      · rw [h4] at ha; cases ha
        exact ⟨o, u, by rw [mix_in ⟨y, h4⟩]; show (s.heap.get? c).map _ = _; rw [ho]; rfl, hd, r⟩
  · have e0 := I.env0
    have big : ∀ b, (∃ y, X.env.cells.lookup y = some b) → X.s_0.heap.objs.size ≤ b := fun b ⟨y, e⟩ => I.ok.cab y b (hfn y) e
    refine ⟨e0.frames, e0.mod, fun b o e => ⟨(e0.bs b o e).1, ?_⟩, e0.bsz, e0.funs, fun b hb => ?_, fun a o e => ?_, e0.bare⟩
    · rw [mix_ni fun n => absurd (Nat.lt_of_lt_of_le (Heap.lt_size (I.ok.bs b o e).1) (big b n)) (Nat.lt_irrefl _)]
      exact (e0.bs b o e).2
    · rw [mix_ni]
      · exact e0.frf b hb
      · intro n
        rcases List.mem_cons.mp (I.stkSub b hb) with z | z
        · obtain ⟨y, e⟩ := n
          exact I.cne y b e z
        · obtain ⟨_, o, ho, _⟩ := I.ok.funs.mem z
          exact absurd (Nat.lt_of_lt_of_le (Heap.lt_size ho) (big b n)) (Nat.lt_irrefl _)
    · by_cases n : ∃ y, X.env.cells.lookup y = some a
      · rw [mix_in n] at e
        obtain ⟨o', v, e1, e2⟩ := cellOf a n
        have e3 : (s.heap.get? a).map (fun o => HO.frz o okT) = some o := e
        rw [e1] at e3; cases e3
        exact okT_ok e1
      · rw [mix_ni n] at e
        refine (e0.hok a o e).stay (fun b u _ q => q) (fun b q => ?_) fun b xs q => ?_
        · rw [mix_ni fun ⟨y, z⟩ => by rw [I.freeC y b z] at q; cases q]; exact q
        · rw [mix_ni fun ⟨y, z⟩ => by rw [I.freeC y b z] at q; cases q]; exact q
  · rintro Q u s' ⟨v, H2, os, bare, un, hok, r, q⟩
    have fr : ∀ b, (∃ y, X.env.cells.lookup y = some b) → ∀ o, s.heap.get? b = some o → H2 b = some (.frz o okT) ∧ s'.heap.get? b = some o := fun b n o e => by
      have z := un.frzs b o okT (by rw [mix_in n]; show (s.heap.get? b).map _ = _; rw [e]; rfl)
      exact ⟨z, (hok b _ z).1⟩
    have mz : ∀ {b : Addr}, (¬ ∃ y, X.env.cells.lookup y = some b) → H b = Option.none → mixN (fun b => ∃ y, X.env.cells.lookup y = some b) fz H b = Option.none := fun n e => (mix_ni n).trans e
    refine ⟨v, wn H2 _, os, bare, ⟨fun b o e n h1 h2 => ?_, fun b o e n h1 h2 => ?_, fun b o e n h2 => ?_, un.there, fun b xs e => ?_, fun b o u e => ?_, fun b ps e => ?_⟩, fun a o e => ?_, r, q⟩
    · by_cases c : ∃ y, X.env.cells.lookup y = some b
      · exact (fr b c o e).2
      · exact un.keep b o e (mz c n) h1 h2
    · by_cases c : ∃ y, X.env.cells.lookup y = some b
      · exact ⟨o.slots, (fr b c o e).2⟩
      · exact un.slot b o e (mz c n) h1 h2
    · by_cases c : ∃ y, X.env.cells.lookup y = some b
      · exact wn_in c
      · rw [wn_ni c]; exact un.free b o e (mz c n) h2
    · have c : ¬ ∃ y, X.env.cells.lookup y = some b := fun ⟨y, z⟩ => by rw [I.freeC y b z] at e; cases e
      rw [wn_ni c]; exact un.tups b xs ((mix_ni c).trans e)
    · have c : ¬ ∃ y, X.env.cells.lookup y = some b := fun ⟨y, z⟩ => by rw [I.freeC y b z] at e; cases e
      rw [wn_ni c]; exact un.frzs b o u ((mix_ni c).trans e)
    · have c : ¬ ∃ y, X.env.cells.lookup y = some b := fun ⟨y, z⟩ => by rw [I.freeC y b z] at e; cases e
      obtain ⟨more, z⟩ := un.tbls b ps ((mix_ni c).trans e)
      exact ⟨more, by rw [wn_ni c]; exact z⟩
    · obtain ⟨c, e'⟩ := wn_some e
      have nc : ∀ {b : Addr} {o : HO}, H2 b = some o → (∀ ob, o ≠ .frz ob okT) → ¬ ∃ y, X.env.cells.lookup y = some b := fun {b o} q ne n => by
        obtain ⟨ob, _, e1, _⟩ := cellOf b n
        rw [(fr b n ob e1).1] at q
        exact ne ob (Option.some.inj q).symm
      refine (hok a o e').stay (fun b u _ q => q) (fun b q => ?_) fun b xs q => ?_
      · rw [wn_ni (nc q fun _ z => nomatch z)]; exact q
      · rw [wn_ni (nc q fun _ z => nomatch z)]; exact q
/-- f(..) of a def that lets nothing out, the caller's cells frozen while it runs -/
def tCallZ (X : Cx) (sp : Sp) (dvs : List V) (t : TA) : TE := fun σ H Q => t σ H fun vs H1 => ∀ Hz N, Frz X σ H1 Hz N → sp (vs ++ dvs) Hz (fun v H2 => Q v (wn H2 N)) E0
theorem pe_callZ {X : Cx} {k : Nat} {f : Addr} {fd : FuncData} {ps : List Str} {sp : Sp} {dvs : List V} {ds : List Value} {x : Str} {p pos : Pos} {e : Expr} {es : List Expr} {t : TA} (F : FnOk X.prog X.w X.K X.mg X.base L2.CX0 k f fd ps sp) (hr : Room k X.A) (hg : Gl X x) (hm : X.mg x = some (.ref f)) (hk : PySem.W.keepIn X.K (.ref f) = true)
    (hb : L2.Binds X.K fd ps ds) (hd : Vals dvs ds) (ha : PA X (e :: es) t) (hfn : ∀ y, X.fn y = true := by intro _; rfl) (hdb : (x == ("__debug__" : Str)) = false := by decide) (he : starEach (e :: es) X.env = (false, eval e X.env) :: starEach es X.env := by rfl) (hpl : (backTo pos (starEach es X.env)).any (·.1) = false := by rfl) :
    PE X (.Call (.Name x p) (e :: es) [] pos) (tCallZ X sp dvs t) := by
  refine ⟨fun pins s σ H Q I h => ?_⟩
  refine wpAny_Call_Name_kw (ld_glob I hg hm (PySem.W.callWith_K (h₀ := X.base) I.ok.mod.kin hk (thn (ha.run pos pins s σ H _ I h) fun us s1 ⟨vs, H1, I1, r, q⟩ => ⟨I1.kIn, ?_⟩) he hpl) hdb)
  obtain ⟨Hz, N, fz, e0, back⟩ := frz_env I1 hfn
  have q := q Hz N fz
  have r2 : Vals (vs ++ dvs) (us ++ ds) := r.append hd
  have hl : (us ++ ds).length = ps.length := by rw [← r2.length]; exact F.len _ _ _ _ q
  refine wpAny_call (codeAny_mono (F.run X.A X.stack s1 Hz ⟨us, []⟩ (us ++ ds) (vs ++ dvs) _ _ hr e0 (hb s1 us I1.kIn hl) r2 q) fun r s' hq => ?_)
  match r, hq with
  | .error e, hq => exact (show False from hq).elim
  | .ok (.ret u), hq => exact I1.after (back Q u s' hq)
  | .ok .next, hq => exact False.elim hq
  | .ok .brk, hq => exact False.elim hq
  | .ok .cont, hq => exact False.elim hq
end Sw
namespace Sw
open PySem PySem.Spec PyProof.Rows L2 Evl LamX NdefX
/-! ### a lambda's promise, from its body -/
structure CloK (S : Hp) (f : Addr) (F : LF) (fr : List Str) (ws : List (Option V)) : Prop where
  fn : S f = some (LamO f F)
  co : S F.c = some (CodeO F.c F.qual)
  len : ws.length = fr.length
  all : ∀ y c, F.cl.lookup y = some c → ∃ o v, S c = some (.frz o okT) ∧ o.data = .cell v
  inj : ∀ x y c, F.cl.lookup x = some c → F.cl.lookup y = some c → x = y
  has : ∀ (i : Nat) (y : Str), fr[i]? = some y → ∃ c, F.cl.lookup y = some c ∧ ∀ v, ws[i]? = some (some v) → ∃ o u, S c = some (.frz o okT) ∧ o.data = .cell (some u) ∧ L2.RelV v u
theorem CloK.mono {S S' : Hp} {f : Addr} {F : LF} {fr : List Str} {ws : List (Option V)} (e : Ex S S') (C : CloK S f F fr ws) : CloK S' f F fr ws :=
  ⟨e _ _ C.fn, e _ _ C.co, C.len, fun y c h => let ⟨o, v, a, b⟩ := C.all y c h; ⟨o, v, e _ _ a, b⟩, C.inj, fun i y h => let ⟨c, a, b⟩ := C.has i y h; ⟨c, a, fun v hv => let ⟨o, u, p, q⟩ := b v hv; ⟨o, u, e _ _ p, q⟩⟩⟩
/-- the cells that a lambda captured -/
def clN (F : LF) : Addr → Prop := fun b => ∃ y, F.cl.lookup y = some b
theorem clo_frz {X : Cx} {σ : L2.St} {H Hz : Hp} {N : Addr → Prop} {f : Addr} {F : LF} {scope : Scope} {fr : List Str} {js : List Nat} (z : Frz X σ H Hz N) (hf : H f = some (LamO f F)) (hc : H F.c = some (CodeO F.c F.qual)) (hcl : F.cl = cloFrom X.env.cells scope.names [])
    (hfree : ∀ y ∈ scope.names, y.2 = .free → X.env.scope.names.lookup y.1 = some .cell ∨ X.env.scope.names.lookup y.1 = some .free) (hfr : ∀ y ∈ fr, (y, NameKind.free) ∈ scope.names) (hjs : js.map (fun j => X.N[j]?) = fr.map some) : CloK Hz f F fr (js.map (slotAt σ)) := by
  have hF : ∀ y ∈ scope.names, y.2 = .free → ∃ c, X.env.cells.lookup y.1 = some c := fun y hy e => z.has y.1 (hfree y hy e)
  have sub : ∀ y c, F.cl.lookup y = some c → X.env.cells.lookup y = some c := fun y c e => clo_cm hF (by rw [hcl] at e; exact e)
  have kn : ∀ {a : Addr} {o : HO}, H a = some o → Hz a = some o := fun {a o} e => z.ex_ a o e
  have ln : js.length = fr.length := by
    have q := congrArg List.length hjs
    rw [List.length_map, List.length_map] at q; exact q
  refine ⟨kn hf, kn hc, by rw [List.length_map]; exact ln, fun y c e => z.inn c ((z.iff c).mpr ⟨y, sub y c e⟩), fun x y c a b => z.inj x y c (sub x c a) (sub y c b), fun i y e => ?_⟩
  have k := hfree (y, .free) (hfr y (List.mem_of_getElem? e)) rfl
  obtain ⟨c, hc0⟩ := z.has y k
  refine ⟨c, by rw [hcl]; exact clo_has hF (hfr y (List.mem_of_getElem? e)) hc0, fun v ev => ?_⟩
  have e2 : (js.map fun j => X.N[j]?)[i]? = some (some y) := by rw [hjs, List.getElem?_map, e]; rfl
  rw [List.getElem?_map] at e2 ev
  cases ej : js[i]? with
  | none => rw [ej] at e2; cases e2
  | some j =>
    rw [ej] at e2 ev
    exact z.val j y v c (Option.some.inj (show some (X.N[j]?) = some (some y) from e2)) (slotAt_some (Option.some.inj (show some (slotAt σ j) = some (some v) from ev))) k hc0
/-- a state in which the cells of Nf are frozen, and the same state without them -/
structure Thaw (H : Hp) (Nf : Addr → Prop) : Prop where
  all : ∀ b, Nf b → ∃ o v, H b = some (.frz o okT) ∧ o.data = .cell v
theorem Thaw.off {H : Hp} {Nf : Addr → Prop} (t : Thaw H Nf) {b : Addr} {o : HO} (e : H b = some o) (n : ∀ ob, o ≠ .frz ob okT) : ¬ Nf b := fun z => let ⟨ob, _, q, _⟩ := t.all b z; n ob (Option.some.inj (e.symm.trans q))
theorem Thaw.offN {H : Hp} {Nf : Addr → Prop} (t : Thaw H Nf) {b : Addr} (e : H b = none) : ¬ Nf b := fun z => let ⟨_, _, q, _⟩ := t.all b z; by rw [e] at q; cases q
section
variable {P : Program} {w : World} {K : PySem.W.Frag} {mg : Str → Option Value} {base : Heap} {A : Around} {outer : List Env} {s : Shared} {H : Hp} {Nf : Addr → Prop}
theorem Thaw.env (t : Thaw H Nf) (e0 : Env0 P w K mg base A outer s H) : Env0 P w K mg base A outer s (wn H Nf) := by
  have off : ∀ {b : Addr}, H b = none → wn H Nf b = none := fun {b} e => (wn_ni (t.offN e)).trans e
  refine ⟨e0.frames, e0.mod, fun b o e => ⟨(e0.bs b o e).1, off (e0.bs b o e).2⟩, e0.bsz, e0.funs, fun b hb => off (e0.frf b hb), fun a o e => ?_, e0.bare⟩
  obtain ⟨_, e'⟩ := wn_some e
  refine (e0.hok a o e').stay (fun b u _ q => q) (fun b q => ?_) fun b xs q => ?_
  · rw [wn_ni (t.off q fun _ z => nomatch z)]; exact q
  · rw [wn_ni (t.off q fun _ z => nomatch z)]; exact q
/-- the heap behind: the frozen cells as they were -/
theorem Thaw.hok {B : Heap} {H3 : Hp} (t : Thaw H Nf) (hf : ∀ b o, H b = some (.frz o okT) → Nf b → B.get? b = some o ∧ H3 b = none) (hok : HOk P w H3 B) : HOk P w (mixN Nf H H3) B := fun a o e => by
  by_cases c : Nf a
  · rw [mix_in c] at e
    obtain ⟨ob, _, q, _⟩ := t.all a c
    rw [q] at e; cases e
    exact okT_ok (hf a ob q c).1
  · rw [mix_ni c] at e
    have nn : ∀ {b : Addr} {o : HO}, H3 b = some o → ¬ Nf b := fun {b o} q z => by
      obtain ⟨ob, _, q2, _⟩ := t.all b z
      rw [(hf b ob q2 z).2] at q; cases q
    refine (hok a o e).stay (fun b u _ q => q) (fun b q => ?_) fun b xs q => ?_
    · rw [mix_ni (nn q)]; exact q
    · rw [mix_ni (nn q)]; exact q
theorem Thaw.back (t : Thaw H Nf) (e0 : Env0 P w K mg base A outer s H) {Q : VK} {u : Value} {s' : Shared} (h : CE outer P w (wn H Nf) s (fun v H3 => (∀ b, Nf b → H3 b = none) → Q v (mixN Nf H H3)) u s') : CE outer P w H s Q u s' := by
  obtain ⟨v, H3, os, bare, un, hok, r, q⟩ := h
  have off : ∀ {b : Addr}, H b = none → wn H Nf b = none := fun {b} e => (wn_ni (t.offN e)).trans e
  have at_ : ∀ b o, H b = some (.frz o okT) → Nf b → s.heap.get? b = some o := fun b o e _ => (e0.hok b _ e).1
  have nfr : ∀ b, Nf b → b ∉ frs outer := fun b z hb => t.offN (e0.frf b hb) z
  have hf : ∀ b o, H b = some (.frz o okT) → Nf b → s'.heap.get? b = some o ∧ H3 b = none := fun b o e z =>
    ⟨un.keep b o (at_ b o e z) (wn_in z) (nfr b z) (by simp), un.free b o (at_ b o e z) (wn_in z) (by simp)⟩
  refine ⟨v, mixN Nf H H3, os, bare, ⟨fun b o e n h1 h2 => un.keep b o e (off n) h1 h2, fun b o e n h1 h2 => un.slot b o e (off n) h1 h2, fun b o e n h2 => (mix_ni (t.offN n)).trans (un.free b o e (off n) h2), un.there, fun b xs e => ?_, fun b o u e => ?_, fun b ps e => ?_⟩, t.hok hf hok, r, q fun b z => let ⟨ob, _, e, _⟩ := t.all b z; (hf b ob e z).2⟩
  · have c := t.off e fun _ z => nomatch z
    rw [mix_ni c]; exact un.tups b xs ((wn_ni c).trans e)
  · by_cases c : Nf b
    · exact (mix_in c).trans e
    · rw [mix_ni c]; exact un.frzs b o u ((wn_ni c).trans e)
  · have c := t.off e fun _ z => nomatch z
    obtain ⟨more, z⟩ := un.tbls b ps ((wn_ni c).trans e)
    exact ⟨more, by rw [mix_ni c]; exact z⟩
/-- what is let out is let out from the frozen state too -/
def Backs (CX : CXT) (P : Program) (w : World) (K : PySem.W.Frag) (mg : Str → Option Value) (base : Heap) : Prop := ∀ (A : Around) (outer : List Env) (s : Shared) (H : Hp) (Nf : Addr → Prop) (E : XK) (e : Value) (s' : Shared), Thaw H Nf → Env0 P w K mg base A outer s H →
  CX outer (wn H Nf) s (fun c d H3 => (∀ b, Nf b → H3 b = none) → E c d (mixN Nf H H3)) e s' → CX outer H s E e s'
theorem backs0 : Backs L2.CX0 P w K mg base := fun _ _ _ _ _ _ _ _ _ _ z => z
theorem backsX : Backs (L2.CX P w) P w K mg base := fun A outer s H Nf E e s' t e0 ⟨a, B, H3, cls, d, e1, fl, hok, un, na, os, bare, hE⟩ => by
  have off : ∀ {b : Addr}, H b = none → wn H Nf b = none := fun {b} e => (wn_ni (t.offN e)).trans e
  have at_ : ∀ b o, H b = some (.frz o okT) → Nf b → s.heap.get? b = some o := fun b o e _ => (e0.hok b _ e).1
  have nfr : ∀ b, Nf b → b ∉ frs outer := fun b z hb => t.offN (e0.frf b hb) z
  have hf : ∀ b o, H b = some (.frz o okT) → Nf b → B.get? b = some o ∧ H3 b = none := fun b o e z =>
    ⟨un.keep b o (at_ b o e z) (wn_in z) (nfr b z), un.free b o (at_ b o e z) (wn_in z)⟩
  have nA : ¬ Nf a := fun z => by
    obtain ⟨ob, _, q, _⟩ := t.all a z
    have z2 := (hf a ob q z).1
    rw [fl.2.1] at z2; cases z2
  refine ⟨a, B, mixN Nf H H3, cls, d, e1, fl, t.hok hf hok, ⟨fun b o e n h1 => un.keep b o e (off n) h1, un.slot, fun b o e n => (mix_ni (t.offN n)).trans (un.free b o e (off n)), un.there, fun b xs e => ?_, fun b o u e => ?_, fun b ps e => ?_⟩, (mix_ni nA).trans na, os, bare, hE fun b z => let ⟨ob, _, q, _⟩ := t.all b z; (hf b ob q z).2⟩
  · have c := t.off e fun _ z => nomatch z
    rw [mix_ni c]; exact un.tups b xs ((wn_ni c).trans e)
  · by_cases c : Nf b
    · exact (mix_in c).trans e
    · rw [mix_ni c]; exact un.frzs b o u ((wn_ni c).trans e)
  · have c := t.off e fun _ z => nomatch z
    obtain ⟨more, z⟩ := un.tbls b ps ((wn_ni c).trans e)
    exact ⟨more, by rw [mix_ni c]; exact z⟩
end
theorem lam_cal {CX : CXT} {P : Program} {w : World} {K : PySem.W.Frag} {mg : Str → Option Value} {base : Heap} {N ps fr : List Str} {F : LF} {f : Addr} {k : Nat} {sp : Sp} {S S0 : Hp} {ws : List (Option V)} (C : CloK S f F fr ws) (Sc : NScope N ps fr F.scope) (bk : Backs CX P w K mg base)
    (hb : ∀ (pm ctv : Value) (us : List Value), us.length = ps.length → bindArgs (F.fd pm ctv) ⟨us, []⟩ = pure (ps.zip us)) (len : ∀ vs H Q E, sp vs H Q E → vs.length = ps.length) (e0 : Ex S0 S) (n0 : ∀ y c, F.cl.lookup y = some c → S0 c = none)
    (hbody : ∀ (A : Around) (outer : List Env) (s : Shared) (H : Hp) (vs : List V) (Q : VK) (E : XK), Room k (A.deeper (envF F.nf f s.heap.objs.size)) → Ex S H → Ex S0 (wn H (clN F)) → sp vs H Q E →
      ∃ t, PE (ncx CX P w K mg base N F.nf f A outer s (wn H (clN F)) (fun c d H3 => (∀ b, clN F b → H3 b = none) → E c d (mixN (clN F) H H3))) F.body t ∧ t (startF N vs ws) (wn H (clN F)) (fun v H3 => (∀ b, clN F b → H3 b = none) → Q v (mixN (clN F) H H3))) :
    Cal P w K mg base CX (k + 1) f sp S := by
  refine ⟨⟨F, C.fn⟩, fun A outer s H us vs Q E eS hr e1 r hsp => ?_⟩
  have C' := C.mono eS
  have t : Thaw H (clN F) := ⟨fun b ⟨y, z⟩ => C'.all y b z⟩
  have hl := len _ _ _ _ hsp
  have lim : s.heap.NoLimit := e1.mod.nolimit.keeps fun b o e => (e1.bs b o e).1
  obtain ⟨od, sl, pm, ctv, ho⟩ := lamO_at e1.hok C'.fn
  refine PySem.W.kla_callFunE hr.depth ho rfl Sc.co Sc.gen rfl (codeO_at e1.hok C'.co) ?_
  rw [hb pm ctv us (by rw [← r.length]; exact hl)]
  refine wpAny_pure (wpAny_newFunctionEnv Sc.nocell (fun ⟨n, _⟩ hy => Sc.par n (List.of_mem_zip hy).1) (fun h₁ hns hsb => ⟨lim.fresh _ hsb, ?_⟩) Sc.kind)
  show codeAny _ _ (.expr F.body (envF F.nf f s.heap.objs.size)) _ _
  have kp : ∀ b o, s.heap.get? b = some o → h₁.get? b = some o := fun b o e => hsb.extBut b o (Nat.ne_of_lt (Heap.lt_size e)) (Heap.get?_push_of_some _ e)
  have x0 : Ex S0 (wn H (clN F)) := fun b o e => by
    rw [wn_ni fun ⟨y, z⟩ => by rw [n0 y b z] at e; cases e]
    exact eS _ _ (e0 _ _ e)
  obtain ⟨tb, ht, hq⟩ := hbody A outer s H vs Q E (hr.deeper _) eS x0 hsp
  have cells : CellsAt F.cl fr ws s.heap (wn H (clN F)) := ⟨C'.len, fun y c e => ⟨wn_in ⟨y, e⟩, let ⟨o, v, q1, q2⟩ := C'.all y c e; ⟨v, o, (e1.hok c _ q1).1, q2⟩⟩, C'.inj, fun i y e => let ⟨c, q1, q2⟩ := C'.has i y e; ⟨c, q1, fun v hv => let ⟨o, u, q3, q4, q5⟩ := q2 v hv; ⟨u, q5, o, (e1.hok c _ q3).1, q4⟩⟩⟩
  have I : Inv (ncx CX P w K mg base N F.nf f A outer s (wn H (clN F)) (fun c d H3 => (∀ b, clN F b → H3 b = none) → E c d (mixN (clN F) H H3))) [] (startF N vs ws) (wn H (clN F)) { s with heap := h₁, toks := s.toks + (ps.zip us).length } := inv_startN (F := F.nf) Sc hr.hd (t.env e1) hl r cells hns kp
  refine PySem.W.kla_codeExpr (wpAny_mono (ht.run [] _ _ _ _ I hq) (fun v s' hv => ?_) fun e s' he => wpAny_mono he (fun _ s'' z => bk A outer s H _ E e s'' t e1 z) fun e' s'' z => bk A outer s H _ E e' s'' t e1 z)
  obtain ⟨v', H', J, rv, q⟩ := hv
  exact t.back e1 ⟨v', H', J.os, J.bare, J.base, J.hok, rv, q⟩
end Sw
namespace Sw
open PySem PySem.Spec PyProof.Rows L2 Evl LamX NdefX
/-- a def whose code object stands at c -/
structure FunC (K : PySem.W.Frag) (x qual : Str) (st : Stmt) (f : Addr) (fd : FuncData) (c : Addr) : Prop where
  ex : ∃ (oc : Value) (od : Option Addr) (kV doc pm : Value) (an : Option Addr) (ct : Value) (osl : Array (Option Value)), fd = PySem.W.fnOf x qual (L2.defArgs st) (L2.defBody st) (L2.defScope st) .none kV doc pm an (.ref c) ct ∧ K.lookup f = some ⟨oc, od, .func fd, osl⟩ ∧ PySem.W.codeIn K (.ref c) qual = true
theorem FunC.ok {P : Program} {w : World} {K : PySem.W.Frag} {mg : Str → Option Value} {base : Heap} {x qual : Str} {st : Stmt} {f : Addr} {fd : FuncData} {c : Addr} {N ps : List Str} {k : Nat} {sp : Sp} (F : FunC K x qual st f fd c) (S : FnScope N ps (L2.defScope st)) (len : ∀ vs H Q E, sp vs H Q E → vs.length = ps.length)
    (hbody : ∀ (A : Around) (outer : List Env) (s : Shared) (H : Hp) (vs : List V) (Q : VK) (E : XK), Room k (A.deeper (envOfC qual (L2.defScope st) s.heap.objs.size f (.ref c))) → sp vs H Q E →
      ∃ t, PSs (cxOf L2.CX0 P w K mg base N qual (L2.defScope st) f (.ref c) A outer s H E).nox (L2.defBody st) t ∧ t { nx := fun _ H' => Q .non H', rt := Q } (L2.start N vs) H) : FnOk P w K mg base L2.CX0 (k + 1) f fd ps sp := by
  obtain ⟨oc, od, kV, doc, pm, an, ct, osl, rfl, lk, hcd⟩ := F.ex
  exact fn_of lk hcd S len fun A outer s H vs Q E hr hsp => let ⟨t, h, q⟩ := hbody A outer s H vs Q E hr hsp; ⟨t, h.nox, q⟩
theorem funC_mk {K : PySem.W.Frag} {x qual : Str} {st : Stmt} {f c : Addr} {oc : Value} {od an : Option Addr} {osl : Array (Option Value)} {kV doc pm ct : Value} (l : K.lookup f = some ⟨oc, od, .func (PySem.W.fnOf x qual (L2.defArgs st) (L2.defBody st) (L2.defScope st) .none kV doc pm an (.ref c) ct), osl⟩)
    (h : PySem.W.codeIn K (.ref c) qual = true) : FunC K x qual st f (PySem.W.fnOf x qual (L2.defArgs st) (L2.defBody st) (L2.defScope st) .none kV doc pm an (.ref c) ct) c := ⟨oc, od, kV, doc, pm, an, ct, osl, rfl, l, h⟩
/-! ### a heap without its tables -/
def nt (H : Hp) : Hp := fun b => match H b with
  | some (.tbl _) => none
  | o => o
theorem nt_of {H : Hp} {b : Addr} {o : HO} (e : H b = some o) (n : ∀ ps, o ≠ .tbl ps) : nt H b = some o := by
  unfold nt
  rw [e]
  cases o <;> first | rfl | exact absurd rfl (n _)
theorem nt_some {H : Hp} {b : Addr} {o : HO} (e : nt H b = some o) : H b = some o ∧ ∀ ps, o ≠ .tbl ps := by
  unfold nt at e
  cases q : H b with
  | none => rw [q] at e; cases e
  | some u =>
    rw [q] at e
    cases u <;> first | (cases e; exact ⟨rfl, fun _ z => nomatch z⟩) | cases e
theorem nt_ex {H : Hp} : Ex (nt H) H := fun _ _ e => (nt_some e).1
theorem extN_nt {H H1 : Hp} (e : ExtN H H1) : Ex (nt H) (nt H1) := fun b o h => nt_of (e b o (nt_some h).1 (nt_some h).2) (nt_some h).2
theorem extN_of {H H1 : Hp} (e : Ex H H1) : ExtN H H1 := fun b o h _ => e b o h
theorem extN_wn {H H1 : Hp} {N : Addr → Prop} (e : ExtN H H1) : ExtN (wn H N) (wn H1 N) := fun b o h n => by
  obtain ⟨q1, q2⟩ := wn_some h
  rw [wn_ni q1]; exact e b o q2 n
theorem nt_t {K : PySem.W.Frag} {H : Hp} {a : Addr} {xs : List V} (h : SqT K H a xs) : SqT K (nt H) a xs := by
  rcases h with (h | ⟨u, h⟩) | h
  · exact .inl (.inl (nt_of h fun _ z => nomatch z))
  · exact .inl (.inr ⟨u, nt_of h fun _ z => nomatch z⟩)
  · exact .inr h
theorem nt_l {K : PySem.W.Frag} {H : Hp} {a : Addr} {xs : List V} (h : SqL K H a xs) : SqL K (nt H) a xs := by
  rcases h with (h | ⟨u, h⟩) | h
  · exact .inl (.inl (nt_of h fun _ z => nomatch z))
  · exact .inl (.inr ⟨u, nt_of h fun _ z => nomatch z⟩)
  · exact .inr h
theorem tabsN_ext {T : List NTab} {H H' : Hp} (t : TabsN T H) (e : Ex H H') : TabsN T H' := t.ext e
end Sw
namespace Sw
open PySem PySem.Spec PyProof.Rows L2 Evl LamX NdefX
/-! ### lambdas with one parameter that has a number as its default -/
theorem evalD {M : Model} {A : Around} {E Q : Value → Shared → Prop} {s : Shared} {params : Arguments} {body e : Expr} {scope : Scope} {pos : Pos} {env : Env} (hdef : defaultsOf params env = ([eval e env], []))
    (h : wpAny M A (eval e env) (fun v s1 => wpAny M A (makeFunction "<lambda>" (env.qual ++ "<lambda>") params (.expr body) scope env [v] [] [] pos pos.line) Q E s1) E s) : wpAny M A (eval (.Lambda params body scope pos) env) Q E s := by
  rw [arm_eval_Lambda, hdef]
  show wpAny M A (do let dv ← evalAll [eval e env]; let kdv ← holding dv (evalAllOpt []); makeFunction "<lambda>" (env.qual ++ "<lambda>") params (.expr body) scope env dv kdv [] pos pos.line) Q E s
  refine wpAny_bind ?_
  show wpAny M A (eval e env >>= fun v => holding [v] (evalAll []) >>= fun r => pure (v :: r)) _ E s
  refine wpAny_bind (wpAny_mono h (fun v s1 h1 => ?_) fun _ _ z => z)
  exact wpAny_bind (wpAny_holding (wpAny_pure (wpAny_pure (wpAny_bind (wpAny_holding (wpAny_pure h1))))))
section
variable {X : Cx} {pins : List (Addr × Obj)} {σ : L2.St} {H : Hp} {s : Shared}
theorem lam_newD {T : List NTab} {nm : Nat → Nat → Str} {c P : Addr} {params : Arguments} {body e : Expr} {scope : Scope} {pos : Pos} {i : Int} {E Q : Value → Shared → Prop} (I : Inv X pins σ H s) (TB : TabB X.base X.mg c P) (hcode : X.env.code = .ref c) (hm : (P, nm) ∈ T)
    (hn : nm pos.line pos.col = X.env.qual ++ "<lambda>") (hu : ∀ p ∈ T, p.1 = P → p.2 = nm) (hT : TabsN T H) (he : PE X e (tC (.int i))) (hE : E = X.xe) (hdef : defaultsOf params X.env = ([eval e X.env], [])) (hfree : ∀ y ∈ scope.names, y.2 = .free → ∃ c, X.env.cells.lookup y.1 = some c)
    (fin : ∀ (f c' t : Addr) (H1 : Hp) (s' : Shared), Inv X pins σ H1 s' → ExtN H H1 → (∀ b, H1 b = Option.none → H b = Option.none) → TabsN T H1 → H f = none → H1 f = some (LamO f ⟨X.env.qual ++ "<lambda>", params, body, scope, cloFrom X.env.cells scope.names [], c', .ref t⟩) → H1 c' = some (CodeO c' (X.env.qual ++ "<lambda>")) → H1 t = some (.tup [.int i]) → Q (.ref f) s') :
    wpAny (model X.prog X.w) X.A (eval (.Lambda params body scope pos) X.env) Q E s := by
  subst hE
  refine evalD hdef (thn (he.run pins s σ H (fun v H1 => v = .int i ∧ H1 = H) I ⟨rfl, rfl⟩) fun u s1 ⟨v, H1, I1, r, ev, eH⟩ => ?_)
  subst ev eH
  obtain ⟨tk, rfl⟩ := (show ∃ t, u = Value.int i t from r)
  rw [makeFunction_eq]
  simp only [List.zip_nil_right, List.filterMap_nil, List.isEmpty_nil, List.isEmpty_cons, Bool.false_eq_true, if_false, if_true, pure_bind]
  refine wpAny_bind (wpAny_newTextTuple ?_)
  have nT : H1 s1.heap.objs.size = none := I1.hok.fresh (Nat.le_refl _)
  have I2 := I1.laid (h' := s1.heap.push ({ cls := .type "tuple", data := .seq #[Value.int i tk] } : Obj)) (o := .tup [.int i]) (t' := s1.toks) (fun b u e => Heap.get?_push_of_some _ e) (Nat.le_refl _) ⟨by show 1 ≤ sizeLine; decide, [Value.int i tk], .cons ⟨tk, rfl⟩ .nil, ⟨_, Heap.get?_push_size _ rfl, rfl, _, rfl⟩⟩
  exact lam_tail (dv := .ref s1.heap.objs.size) I2 TB hcode hm hn hu (hT.ext fun b o e => (upd_ne (ne_of_none e nT)).trans e) hfree fun f c' H3 s' I3 e1 e2 e3 e4 e5 e6 =>
    fin f c' s1.heap.objs.size H3 s' I3 (fun b o hb n => e1 b o ((upd_ne (ne_of_none hb nT)).trans hb) n) (fun b z => upd_none (e2 b z)) e3 (upd_none e4) e5 e6 (e1 _ _ upd_same fun _ z => nomatch z)
end
/-- the reading of such a lambda -/
def tLamD (T : List NTab) (mk : Addr → Addr → LF) (i : Int) : TE := fun σ H Q => TabsN T H ∧ ∀ (f c' t : Addr) (H1 : Hp), ExtN H H1 → (∀ b, H1 b = Option.none → H b = Option.none) → TabsN T H1 → H f = none → H1 f = some (LamO f (mk c' t)) → H1 c' = some (CodeO c' (mk c' t).qual) → H1 t = some (.tup [.int i]) → Q (.ref f) H1
theorem pe_lamD {X : Cx} {T : List NTab} {nm : Nat → Nat → Str} {c P : Addr} {params : Arguments} {body e : Expr} {scope : Scope} {pos : Pos} {i : Int} (TB : TabB X.base X.mg c P) (hcode : X.env.code = .ref c) (hm : (P, nm) ∈ T) (hn : nm pos.line pos.col = X.env.qual ++ "<lambda>") (hu : ∀ p ∈ T, p.1 = P → p.2 = nm) (he : PE X e (tC (.int i)))
    (hdef : defaultsOf params X.env = ([eval e X.env], [])) (hfree : ∀ y ∈ scope.names, y.2 = .free → X.env.scope.names.lookup y.1 = some .cell ∨ X.env.scope.names.lookup y.1 = some .free) :
    PE X (.Lambda params body scope pos) (tLamD T (fun c' t => ⟨X.env.qual ++ "<lambda>", params, body, scope, cloFrom X.env.cells scope.names [], c', .ref t⟩) i) := by
  refine ⟨fun pins s σ H Q I ⟨hT, h⟩ => ?_⟩
  exact lam_newD I TB hcode hm hn hu hT he rfl hdef (fun y hy e => (hfree y hy e).elim (fun z => I.ok.has _ (.inl z)) fun z => I.ok.has _ (.inr z)) fun f c' t H1 s' I1 e1 e2 e3 e4 e5 e6 e7 => ⟨.ref f, H1, I1, rfl, h f c' t H1 e1 e2 e3 e4 e5 e6 e7⟩
theorem lam_calD {CX : CXT} {P : Program} {w : World} {K : PySem.W.Frag} {mg : Str → Option Value} {base : Heap} {N fr : List Str} {p : Str} {F : LF} {f t : Addr} {i : Int} {k : Nat} {sp : Sp} {S S0 : Hp} {ws : List (Option V)} (C : CloK S f F fr ws) (ht : S t = some (.tup [.int i])) (Sc : NScope N [p] fr F.scope) (bk : Backs CX P w K mg base)
    (hb : ∀ (pm ctv u : Value) (s : Shared) (o : Obj) (n : Nat), s.heap.get? t = some o → o.data = .seq #[u] n → BindsTo s (F.fd pm ctv) ⟨[], []⟩ [(p, u)]) (len : ∀ vs H Q E, sp vs H Q E → vs = []) (e0 : Ex S0 S) (n0 : ∀ y c, F.cl.lookup y = some c → S0 c = none)
    (hbody : ∀ (A : Around) (outer : List Env) (s : Shared) (H : Hp) (Q : VK) (E : XK), Room k (A.deeper (envF F.nf f s.heap.objs.size)) → Ex S H → Ex S0 (wn H (clN F)) → sp [] H Q E →
      ∃ t, PE (ncx CX P w K mg base N F.nf f A outer s (wn H (clN F)) (fun c d H3 => (∀ b, clN F b → H3 b = none) → E c d (mixN (clN F) H H3))) F.body t ∧ t (startF N [.int i] ws) (wn H (clN F)) (fun v H3 => (∀ b, clN F b → H3 b = none) → Q v (mixN (clN F) H H3))) :
    Cal P w K mg base CX (k + 1) f sp S := by
  refine ⟨⟨F, C.fn⟩, fun A outer s H us vs Q E eS hr e1 r hsp => ?_⟩
  obtain rfl := len _ _ _ _ hsp
  cases r
  have C' := C.mono eS
  have th : Thaw H (clN F) := ⟨fun b ⟨y, z⟩ => C'.all y b z⟩
  have lim : s.heap.NoLimit := e1.mod.nolimit.keeps fun b o e => (e1.bs b o e).1
  obtain ⟨od, sl, pm, ctv, ho⟩ := lamO_at e1.hok C'.fn
  obtain ⟨_, its, ri, o, ho2, hc2, n, hd2⟩ := (show ObjOk P w H s.heap t (.tup [.int i]) from e1.hok t _ (eS _ _ ht))
  cases ri with | cons ru rn =>
  cases rn
  rename_i u
  refine PySem.W.kla_callFunE hr.depth ho rfl Sc.co Sc.gen rfl (codeO_at e1.hok C'.co) (hb pm ctv u s o n ho2 hd2 _ _ _ _ ?_)
  refine wpAny_newFunctionEnv Sc.nocell (fun ⟨n, _⟩ hy => Sc.par n (by have z := List.mem_singleton.mp hy; rw [(Prod.mk.inj z).1]; exact List.mem_singleton.mpr rfl)) (fun h₁ hns hsb => ⟨lim.fresh _ hsb, ?_⟩) Sc.kind
  show codeAny _ _ (.expr F.body (envF F.nf f s.heap.objs.size)) _ _
  have kp : ∀ b o, s.heap.get? b = some o → h₁.get? b = some o := fun b o e => hsb.extBut b o (Nat.ne_of_lt (Heap.lt_size e)) (Heap.get?_push_of_some _ e)
  have x0 : Ex S0 (wn H (clN F)) := fun b o e => by
    rw [wn_ni fun ⟨y, z⟩ => by rw [n0 y b z] at e; cases e]
    exact eS _ _ (e0 _ _ e)
  obtain ⟨tb, ht, hq⟩ := hbody A outer s H Q E (hr.deeper _) eS x0 hsp
  have cells : CellsAt F.cl fr ws s.heap (wn H (clN F)) := ⟨C'.len, fun y c e => ⟨wn_in ⟨y, e⟩, let ⟨o, v, q1, q2⟩ := C'.all y c e; ⟨v, o, (e1.hok c _ q1).1, q2⟩⟩, C'.inj, fun i y e => let ⟨c, q1, q2⟩ := C'.has i y e; ⟨c, q1, fun v hv => let ⟨o, u, q3, q4, q5⟩ := q2 v hv; ⟨u, q5, o, (e1.hok c _ q3).1, q4⟩⟩⟩
  have I : Inv (ncx CX P w K mg base N F.nf f A outer s (wn H (clN F)) (fun c d H3 => (∀ b, clN F b → H3 b = none) → E c d (mixN (clN F) H H3))) [] (startF N [.int i] ws) (wn H (clN F)) { s with heap := h₁, toks := s.toks + ([p].zip [u]).length } := inv_startN (F := F.nf) Sc hr.hd (th.env e1) rfl (.cons ru .nil) cells hns kp
  refine PySem.W.kla_codeExpr (wpAny_mono (ht.run [] _ _ _ _ I hq) (fun v s' hv => ?_) fun e s' he => wpAny_mono he (fun _ s'' z => bk A outer s H _ E e s'' th e1 z) fun e' s'' z => bk A outer s H _ E e' s'' th e1 z)
  obtain ⟨v', H', J, rv, q⟩ := hv
  exact th.back e1 ⟨v', H', J.os, J.bare, J.base, J.hok, rv, q⟩
end Sw
namespace Sw
open PySem PySem.Spec PyProof.Rows L2 Evl LamX NdefX
/-! ### a comprehension in which the def's cells are known: frozen from its start to its end -/
/-- what is not frozen any more -/
theorem un_thaw {fr ex : List Addr} {H Hz H5 : Hp} {g g' : Heap} {N : Addr → Prop} (u : Un fr ex Hz H5 g g') (out : ∀ b, ¬ N b → Hz b = H b) (off : ∀ b, N b → H b = none) (inn : ∀ b, N b → ∃ o, g.get? b = some o ∧ Hz b = some (.frz o okT)) (at_ : ∀ b o, H5 b = some (.frz o okT) → g'.get? b = some o) : Un fr ex H (wn H5 N) g g' := by
  have cell : ∀ {b : Addr} {o : Obj}, N b → g.get? b = some o → H5 b = some (.frz o okT) ∧ g'.get? b = some o := fun {b o} n e => by
    obtain ⟨o', e1, e2⟩ := inn b n
    rw [e] at e1; cases e1
    have z := u.frzs b o okT e2
    exact ⟨z, at_ b o z⟩
  have zn : ∀ {b : Addr}, ¬ N b → H b = none → Hz b = none := fun n e => (out _ n).trans e
  refine ⟨?_, ?_, ?_, u.there, ?_, ?_, ?_⟩
  · intro b o e n h1 h2
    by_cases c : N b
    · exact (cell c e).2
    · exact u.keep b o e (zn c n) h1 h2
  · intro b o e n h1 h2
    by_cases c : N b
    · exact ⟨o.slots, (cell c e).2⟩
    · exact u.slot b o e (zn c n) h1 h2
  · intro b o e n h2
    by_cases c : N b
    · exact wn_in c
    · exact (wn_ni c).trans (u.free b o e (zn c n) h2)
  · intro b xs e
    have c : ¬ N b := fun z => by rw [off b z] at e; cases e
    exact (wn_ni c).trans (u.tups b xs ((out b c).trans e))
  · intro b o v e
    have c : ¬ N b := fun z => by rw [off b z] at e; cases e
    exact (wn_ni c).trans (u.frzs b o v ((out b c).trans e))
  · intro b ps e
    have c : ¬ N b := fun z => by rw [off b z] at e; cases e
    obtain ⟨more, z⟩ := u.tbls b ps ((out b c).trans e)
    exact ⟨more, (wn_ni c).trans z⟩
theorem hok_thaw {P : Program} {w : World} {H5 : Hp} {g : Heap} {N : Addr → Prop} (k : HOk P w H5 g) (fz : ∀ b, N b → ∃ o, H5 b = some (.frz o okT)) : HOk P w (wn H5 N) g := fun a o e => by
  obtain ⟨c, e'⟩ := wn_some e
  have nc : ∀ {b : Addr} {u : HO}, H5 b = some u → (∀ ob, u ≠ .frz ob okT) → ¬ N b := fun {b u} q ne n => by
    obtain ⟨ob, e1⟩ := fz b n
    rw [e1] at q
    exact ne ob (Option.some.inj q).symm
  refine (k a o e').stay (fun _ _ _ q => q) (fun b q => ?_) fun b xs q => ?_
  · rw [wn_ni (nc q fun _ z => nomatch z)]; exact q
  · rw [wn_ni (nc q fun _ z => nomatch z)]; exact q
/-- a block's start with more known -/
theorem blk_frz {X : Cx} {t3 t4 : Shared} {H3 Hz : Hp} {scope : Scope} {ce : Env} {fp : List Addr} {σ' : L2.St} {N : Addr → Prop} (J : Inv (X.blk t3 H3 scope ce fp) [] σ' H3 t4) (kp : ∀ b u, t3.heap.get? b = some u → t4.heap.get? b = some u) (out : ∀ b, ¬ N b → Hz b = H3 b) (off : ∀ b, N b → H3 b = none)
    (inn : ∀ b, N b → ∃ o, t3.heap.get? b = some o ∧ Hz b = some (.frz o okT)) (nb : ∀ b, N b → X.base.get? b = none) (ns : ∀ b, N b → b ∉ frs X.stack) (nl : ∀ b, N b → b ≠ ce.locals) (nc : ∀ y b, ce.cells.lookup y = some b → ¬ N b) : Inv (X.blk t3 Hz scope ce fp) [] σ' Hz t4 := by
  have k := J.ok
  refine ⟨⟨k.mod, k.kind, k.glob, k.blt, k.above, k.inj, k.has, k.cab, k.hd, k.frames, k.stk, k.exf, fun b o e => ⟨(k.bs b o e).1, ?_⟩, k.bsz, k.noex, k.exfs, k.funs, fun b e => ?_⟩, J.os, J.bare, Un.kept kp, J.loc, J.cell, ?_, fun y c e => ?_, fun p hp => absurd (show p ∈ ([] : List (Addr × Obj)) ++ [] from hp) (by simp), ?_, J.len⟩
  · have n : ¬ N b := fun z => by have q := nb b z; rw [e] at q; cases q
    exact (out b n).trans (k.bs b o e).2
  · have n : ¬ N b := fun z => ns b z e
    exact (out b n).trans (k.frf b e)
  · have n : ¬ N ce.locals := fun z => nl _ z rfl
    exact (out _ n).trans J.free
  · exact (out c (nc y c e)).trans (J.freeC y c e)
  · intro a o e
    by_cases n : N a
    · obtain ⟨ob, e1, e2⟩ := inn a n
      rw [e2] at e; cases e
      exact okT_ok (kp _ _ e1)
    · rw [out a n] at e
      have t : ∀ {b : Addr} {u : HO}, H3 b = some u → Hz b = some u := fun {b u} q => (out b fun z => by rw [off b z] at q; cases q).trans q
      exact (J.hok a o e).stay (fun _ _ _ q => q) (fun b q => t q) fun b xs q => t q
/-- its reading -/
def tLcF (X : Cx) (wi : TI) (g : TG) (te : TE) (vs : List Nat) : TE := fun σ H Q => wi σ H fun J H1 => ∀ Hz N, Frz X σ H1 Hz N → ∀ D, Hz D = none → ∃ W : Nat → Nat → Hp → Prop, (∃ m, W 0 m (upd Hz D (.lst []))) ∧ ∀ i m H, W i m H →
  (J.stop i H ∧ Q (.ref D) (wn H N)) ∨ (J.go i H ∧ ∃ Nx : Hp → Prop, (∀ H', Nx H' → ∃ m', m' < m ∧ W (i + 1) m' H') ∧ ∀ x H', J.yld i H x H' → g x (wipe σ vs) H' fun σ2 H2 => wipe σ2 vs = wipe σ vs ∧
    te σ2 H2 fun y H4 => ∃ acc, H4 D = some (.lst acc) ∧ acc.length < sizeLine ∧ Nx (upd H4 D (.lst (acc ++ [y]))))
section
variable {X : Cx}
theorem lcF_core {pn : List (Addr × Obj)} {t : Shared} {σ : L2.St} {H : Hp} {Q : VK} {el tg itr : Expr} {sc : Scope} {own : List (Str × Nat)} {po po' : Pos} {wi : TI} {g : TG} {te : TE} {Qf : Value → Shared → Prop} (calm : X.calm = true) (hfn : ∀ y, X.fn y = true) (J : Inv X pn σ H t) (pi : PI X tg itr wi) (ok : BlkOk X.N X.env.scope sc own) (nodup : X.N.Nodup) (nf : ∀ y ∈ sc.names, y.2 ≠ .free)
    (pg : ∀ (t : Shared) (H : Hp) (C : Addr) (cl : List (Str × Addr)) (fp : List Addr), PG (X.blk t H sc (compEnvC sc cl C X.env) fp) tg g) (pe : ∀ (t : Shared) (H : Hp) (C : Addr) (cl : List (Str × Addr)) (fp : List Addr), PE (X.blk t H sc (compEnvC sc cl C X.env) fp) el te) (fo : ∀ x, foldedSetIterable itr X.env x = pure x)
    (rd : tLcF X wi g te (own.map (·.2)) σ H Q) (fin : ∀ D C t' m H', Inv X pn σ H' t' → Q (.ref D) H' → t'.heap.Ns C m → FpOk X pn H' C → compPost (model X.prog X.w) X.A X.xe none Qf (.ref D) C (.ok .next) t') :
    wpAny (model X.prog X.w) X.A (comprehension (.ListComp el [⟨tg, itr, [], 0⟩] sc po) sc X.env po' (newList []) false (eval itr X.env) none) Qf X.xe t := by
  refine wpAny_comprehension_free (use := none) rfl fo (closure_ok fun y hy e => absurd e (nf y hy)) ok.kind (fun y hy e => by rw [ok.uniq y hy, e]) (thn (pi.run pn t σ H _ J rd) fun xv t1 hx => thn hx fun iv t2 h2 => ?_)
  obtain ⟨it, fp, tn, Jt, H2, e, J2, T, st2, f2, q⟩ := h2
  subst e
  obtain ⟨Hz, N, fz, e0, _⟩ := frz_env J2 hfn
  refine wpAny_newObj_type (newEnv_comp ?_) (Nat.zero_le _)
  generalize hD : t2.heap.objs.size = D
  have Dn : Hz D = none := e0.hok.fresh (Nat.le_of_eq hD)
  have Dn2 : H2 D = none := J2.hok.fresh (Nat.le_of_eq hD)
  obtain ⟨W, ⟨m0, w0⟩, turn⟩ := q Hz N fz D Dn
  -- the cells: where they stand
  have cellAt : ∀ b, N b → ∃ o, t2.heap.get? b = some o ∧ Hz b = some (.frz o okT) := fun b n => by
    obtain ⟨o, v, e1, _⟩ := fz.inn b n
    exact ⟨o, (e0.hok b _ e1).1, e1⟩
  have nlt : ∀ b, N b → b < t2.heap.objs.size := fun b n => let ⟨o, e1, _⟩ := cellAt b n; Heap.lt_size e1
  have nge : ∀ b, N b → X.s_0.heap.objs.size ≤ b := fun b n => let ⟨y, e1⟩ := (fz.iff b).mp n; J2.ok.cab y b (hfn y) e1
  generalize ht3 : ({ t2 with heap := t2.heap.push { cls := .type "list", data := .seq ([] : List Value).toArray } } : Shared) = t3
  have hp3 : t3.heap = t2.heap.push { cls := .type "list", data := .seq ([] : List Value).toArray } := by rw [← ht3]
  have k23 : ∀ b u, t2.heap.get? b = some u → t3.heap.get? b = some u := fun b u e => by rw [hp3]; exact Heap.get?_push_of_some _ e
  have J3 : Inv X pn σ (upd H2 D (.lst [])) t3 := by
    rw [← ht3]
    refine J2.laid (t' := t2.toks) (fun b u e => Heap.get?_push_of_some _ e) (Nat.le_of_eq hD) ⟨Nat.zero_le _, [], 0, .nil, ?_⟩
    rw [← hD]; exact Heap.get?_push_size _ rfl
  have neD : ∀ b, b < t2.heap.objs.size → b ≠ D := fun b z => by rw [← hD]; exact Nat.ne_of_lt z
  have lt2 : ∀ b ∈ fp, b < t2.heap.objs.size := fun b hb => let ⟨o, e, _⟩ := T.obj _ _ st2 b hb; Heap.lt_size e
  have sz3 : t3.heap.objs.size = t2.heap.objs.size + 1 := by rw [hp3, Heap.size_push]
  have fp3 : ∀ b ∈ fp, FpOk X pn (upd H2 D (.lst [])) b ∧ b < t3.heap.objs.size := fun b hb => by
    have z := lt2 b hb
    exact ⟨⟨(upd_ne (neD b z)).trans (f2 b hb).1, (f2 b hb).2⟩, by rw [sz3]; exact Nat.lt_succ_of_lt z⟩
  have st3 : tn 0 t3.heap := T.keep _ _ _ st2 fun b _ u e => k23 b u e
  have J4 := block_start J3 ok nodup fp3
  generalize hcl : cellsFrom (t3.heap.objs.size + 1) sc.names (cloFrom X.env.cells sc.names []) = cls at J4 ⊢
  have k34 : ∀ b u, t3.heap.get? b = some u → (pushCells (t3.heap.push { cls := .type "dict", data := .dict #[] }) sc.names).get? b = some u := fun b u e => pushCells_keeps _ _ _ _ (Heap.get?_push_of_some _ e)
  have cnew : ∀ y c, (compEnvC sc cls t3.heap.objs.size X.env).cells.lookup y = some c → ¬ N c := fun y c e n => by
    have e : cls.lookup y = some c := e
    rw [← hcl, ← Heap.size_push t3.heap { cls := .type "dict", data := .dict #[] }] at e
    rcases cells_mem (PySem.mem_of_lookup e) with hm | ⟨_, z, _⟩
    · rcases cloFrom_mem hm with hm | ⟨z, _⟩
      · cases hm
      · exact nf _ z rfl
    · rw [Heap.size_push, sz3] at z
      exact absurd (Nat.lt_of_lt_of_le (nlt c n) (Nat.le_trans (Nat.le_trans (Nat.le_succ _) (Nat.le_succ _)) z)) (Nat.lt_irrefl _)
  have J5 := blk_frz (Hz := upd Hz D (.lst [])) (N := N) J4 k34 (fun b n => by
      by_cases z : b = D
      · rw [z, upd_same, upd_same]
      · rw [upd_ne z, upd_ne z]; exact fz.out b n) (fun b n => (upd_ne (neD b (nlt b n))).trans (fz.off b n))
    (fun b n => let ⟨o, a1, a2⟩ := cellAt b n; ⟨o, k23 _ _ a1, (upd_ne (neD b (nlt b n))).trans a2⟩)
    (fun b n => by
      cases z : X.base.get? b with
      | none => rfl
      | some u => exact absurd (Nat.lt_of_lt_of_le (Heap.lt_size z) (Nat.le_trans J2.ok.bsz (nge b n))) (Nat.lt_irrefl _))
    (fun b n z => by
      rcases List.mem_cons.mp (J2.stkSub b z) with z | z
      · obtain ⟨y, e1⟩ := (fz.iff b).mp n
        exact J2.cne y b e1 z
      · obtain ⟨_, o, ho, _⟩ := J2.ok.funs.mem z
        exact absurd (Nat.lt_of_lt_of_le (Heap.lt_size ho) (nge b n)) (Nat.lt_irrefl _))
    (fun b n z => by have q1 : b = t3.heap.objs.size := z; exact absurd q1 (Nat.ne_of_lt (by rw [sz3]; exact Nat.lt_succ_of_lt (nlt b n)))) cnew
  have nfz : ∀ b ∈ fp, (upd Hz D (.lst [])) b = none := fun b hb => by
    have z := lt2 b hb
    rw [upd_ne (neD b z), fz.out b fun n => by obtain ⟨y, e1⟩ := (fz.iff b).mp n; exact (f2 b hb).2.2.2.2.1 y b e1 rfl]
    exact (f2 b hb).1
  show codeAny _ _ (.compStart (.ListComp el [⟨tg, itr, [], 0⟩] sc po) 0 (.ref it) (.ref D) (compEnvC sc cls t3.heap.objs.size X.env)) (compPost (model X.prog X.w) X.A X.xe none Qf (.ref D) t3.heap.objs.size) { t3 with heap := pushCells (t3.heap.push { cls := .type "dict", data := .dict #[] }) sc.names }
  have pg' := pg t3 (upd Hz D (.lst [])) t3.heap.objs.size cls fp
  have pe' := pe t3 (upd Hz D (.lst [])) t3.heap.objs.size cls fp
  generalize hce : compEnvC sc cls t3.heap.objs.size X.env = ce at J5 pg' pe' ⊢
  have cL : ce.locals = t3.heap.objs.size := by subst hce; rfl
  generalize hz3 : upd Hz D (.lst []) = Hz3 at J5 pg' pe' w0 nfz
  have hz3N : ∀ b, ¬ N b → Hz3 b = upd H2 D (.lst []) b := fun b n => by
    rw [← hz3]
    by_cases z : b = D
    · rw [z, upd_same, upd_same]
    · rw [upd_ne z, upd_ne z]; exact fz.out b n
  have hz3I : ∀ b, N b → ∃ o, t3.heap.get? b = some o ∧ Hz3 b = some (.frz o okT) := fun b n => by
    obtain ⟨o, a1, a2⟩ := cellAt b n
    exact ⟨o, k23 _ _ a1, by rw [← hz3]; exact (upd_ne (neD b (nlt b n))).trans a2⟩
  generalize ht4 : ({ t3 with heap := pushCells (t3.heap.push { cls := .type "dict", data := .dict #[] }) sc.names } : Shared) = t4 at J5 ⊢
  have st4 : tn 0 t4.heap := T.keep _ _ _ st3 fun b _ u e => by rw [← ht4]; exact k34 b u e
  have stood : ∀ {σ' : L2.St} {H' : Hp} {t' : Shared}, Inv (X.blk t3 Hz3 sc ce fp) [] σ' H' t' → (∀ b ∈ fp, H' b = none) → ∀ b ∈ fp, FpOk (X.blk t3 Hz3 sc ce fp) [] H' b := fun {σ' H' t'} K n b hb =>
    ⟨n b hb, (K.ok.exf b hb).1, K.ok.exfs b hb, .inl hb, fun x c e => (K.ok.exf b hb).2 x c e, fun p hp => absurd (show p ∈ ([] : List (Addr × Obj)) ++ [] from hp) (by simp)⟩
  have loop : codeAny (model X.prog X.w) X.A (.compLoop (.ListComp el [⟨tg, itr, [], 0⟩] sc po) 0 (.ref it) (.ref D) ce) (compPost (model X.prog X.w) X.A X.xe none Qf (.ref D) t3.heap.objs.size) t4 := by
    refine compLoop_any (fun n t' => ∃ i H', Inv (X.blk t3 Hz3 sc ce fp) [] (wipe σ (own.map (·.2))) H' t' ∧ tn i t'.heap ∧ (∀ b ∈ fp, H' b = none) ∧ W i n H') ?_ m0 ⟨0, Hz3, J5, st4, nfz, w0⟩
    rintro n t5 ⟨i, H5, K5, st5, n5, w5⟩
    rcases turn i n H5 w5 with ⟨stop, qq⟩ | ⟨gg, Nx, hNx, step⟩
    · refine thnF (T.done (X.blk t3 Hz3 sc ce fp) rfl rfl rfl calm i [] t5 _ H5 (fun _ _ => False) K5 (stood K5 n5) st5 stop) fun r t6 ⟨hr, K6⟩ => ?_
      subst hr
      have bs := K6.base
      have J7 : Inv X pn σ (wn H5 N) t6 := J3.call' (ch := fp) K6.os (un_thaw bs hz3N (fun b n => (upd_ne (neD b (nlt b n))).trans (fz.off b n)) hz3I fun b o e => (K6.hok b _ e).1) (hok_thaw K6.hok fun b n => let ⟨o, _, a2⟩ := hz3I b n; ⟨o, bs.frzs b o okT a2⟩) K6.bare
        fun b hb => ⟨(fp3 b hb).1.2.2.2.1, (fp3 b hb).1.2.1, (fp3 b hb).1.2.2.2.2.1, (fp3 b hb).1.2.2.2.2.2⟩
      have nC : H5 t3.heap.objs.size = none := by have z : H5 ce.locals = none := K6.free; rw [cL] at z; exact z
      have nN : ¬ N t3.heap.objs.size := fun z => absurd (nlt _ z) (by rw [sz3]; exact Nat.not_lt_of_le (Nat.le_succ _))
      obtain ⟨mm, hn, _⟩ := K6.loc
      have hn : t6.heap.Ns ce.locals mm := hn
      rw [cL] at hn
      exact fin D t3.heap.objs.size t6 mm _ J7 qq hn (J3.fpOk (Nat.le_refl _) ((wn_ni nN).trans nC))
    · refine thnF (T.item (X.blk t3 Hz3 sc ce fp) rfl rfl rfl calm i [] t5 _ H5 (fun _ _ => False) K5 (stood K5 n5) st5 gg) fun r t6 ⟨u, hr, h6⟩ => ?_
      subst hr
      refine thnF h6 fun _ t7 ⟨x, H7, K7, r7, y7, st7, n7⟩ => ?_
      have K7' := K7.pinned (stood K7 n7) (T.obj _ _ st7)
      refine thnF (pg'.run _ t7 _ H7 x u _ K7' r7 (step x H7 y7)) fun _ t8 ⟨σ8, H8, K8, hw8, q8⟩ => ?_
      refine thnF ((pts_nil (X := X.blk t3 Hz3 sc ce fp)).run _ t8 σ8 H8 (fun b G => b = true ∧ G = H8) K8 ⟨rfl, rfl⟩) fun b t9 ⟨H9, K9, hb, eG⟩ => ?_
      subst hb eG
      simp only [if_true]
      refine thnF (pe'.run _ t9 σ8 H9 _ K9 q8) fun z t10 ⟨yv, H10, K10, r10, acc, hD10, hz10, nx⟩ => ?_
      refine app_ok (X := X.blk t3 Hz3 sc ce fp) K10 hD10 hz10 r10 fun t11 K11 => ?_
      obtain ⟨m', hm, w'⟩ := hNx _ nx
      have pin' : ∀ b ∈ fp, ∀ o, t7.heap.get? b = some o → t11.heap.get? b = some o ∧ (upd H10 D (.lst (acc ++ [yv]))) b = none := fun b hb o e =>
        let z := K11.pin (b, o) (List.mem_append_right _ (List.mem_append_right _ (mem_pinsAt hb e))); ⟨z.1, z.2.1⟩
      have hl : (wipe σ (own.map (·.2))).length = σ8.length := by rw [← hw8]; exact wipe_length _ _
      exact ⟨m', hm, i + 1, _, (K11.unpinned (pins := [])).weak hl (fun j v e => by rw [← hw8] at e; exact (wipe_some e).1), T.keep _ _ _ st7 fun b hb o e => (pin' b hb o e).1,
        fun b hb => let ⟨o, e, _⟩ := T.obj _ _ st7 b hb; (pin' b hb o e).2, w'⟩
  exact codeAny_compStart_list loop (T.self X.A 0 _ _ _ st4 loop)
theorem pe_lcF {el tg itr : Expr} {sc : Scope} {own : List (Str × Nat)} {po : Pos} {wi : TI} {g : TG} {te : TE} (calm : X.calm = true) (nodup : X.N.Nodup) (pi : PI X tg itr wi) (ok : BlkOk X.N X.env.scope sc own) (nf : ∀ y ∈ sc.names, y.2 ≠ .free)
    (pg : ∀ (t : Shared) (H : Hp) (C : Addr) (cl : List (Str × Addr)) (fp : List Addr), PG (X.blk t H sc (compEnvC sc cl C X.env) fp) tg g) (pe : ∀ (t : Shared) (H : Hp) (C : Addr) (cl : List (Str × Addr)) (fp : List Addr), PE (X.blk t H sc (compEnvC sc cl C X.env) fp) el te)
    (hfn : ∀ y, X.fn y = true := by intro _; rfl) (fo : ∀ x, foldedSetIterable itr X.env x = pure x := by intro _; rfl) : PE X (.ListComp el [⟨tg, itr, [], 0⟩] sc po) (tLcF X wi g te (own.map (·.2))) := by
  refine ⟨fun pn t σ H Q J rd => ?_⟩
  rw [eval_ListComp]
  refine lcF_core calm hfn J pi ok nodup nf pg pe fo rd fun D C t' m H' K q hn ⟨f0, f1, f2, f3, f4, f5⟩ => ⟨m, hn, fun h'' sb => ?_⟩
  exact ⟨.ref D, H', K.turned (t' := t'.toks) (fun b u hb e => (sb.2 b hb).trans e) f0 f1 f3 f4 f5, rfl, q⟩
end
end Sw
namespace Sw
open PySem PySem.Spec PyProof.Rows L2 Evl LamX NdefX
/-! ### an exception's own __init__ that begins with super().__init__(..) -/
/-- what the written part says of such a method: its object, its code, its cell, its class -/
structure SupF (P : Program) (K : PySem.W.Frag) (qual : Str) (st : Stmt) (f : Addr) (fd : FuncData) (cda cc D : Addr) : Prop where
  ex : ∃ (oc : Value) (od : Option Addr) (kV doc pm : Value) (an : Option Addr) (ct : Value) (osl : Array (Option Value)), fd = PySem.W.ksFn "__init__" qual (L2.defArgs st) (L2.defBody st) (L2.defScope st) .none kV doc pm an (.ref cda) ct cc ∧ K.lookup f = some ⟨oc, od, .func fd, osl⟩ ∧ PySem.W.codeIn K (.ref cda) qual = true
  code : ∃ (oc : Value) (od : Option Addr) (vs : Array Value) (sl : Array (Option Value)) (file : Str) (tf : Tok), K.lookup cda = some ⟨oc, od, .fields vs, sl⟩ ∧ vs[2]? = some (.str file tf) ∧ ((P.main.file : Str) == file) = true
  cell : ∃ (oc : Value) (od : Option Addr) (sl : Array (Option Value)), K.lookup cc = some ⟨oc, od, .cell (some (.ref D)), sl⟩
  any : PySem.W.nsIn K cStatics "thirdparty.any" = some none
  sup : PySem.W.ks_superIn K D D "__init__" = some (some (.builtin "ValueError.__init__"))
  sub : PySem.W.mroIn K D (.ref D) = some true
  subV : PySem.W.subIn K (.ref D) (.type "ValueError") = some true
  top : (P.main.scope.names.lookup ("super" : Str)).isSome = false
theorem inv_pin {X : Cx} {pins : List (Addr × Obj)} {σ : L2.St} {H : Hp} {s : Shared} {p : Addr × Obj} (I : Inv X pins σ H s) (h : s.heap.get? p.1 = some p.2 ∧ H p.1 = none ∧ p.1 ≠ X.env.locals ∧ p.1 ∉ X.fs ∧ ∀ v, p.2.data ≠ .cell v) : Inv X (p :: pins) σ H s := I.pins_of fun q hq => by
  rcases List.mem_cons.mp hq with rfl | hq
  · exact h
  · exact I.pin q (List.mem_append_right _ hq)
theorem inv_unpin {X : Cx} {pins : List (Addr × Obj)} {σ : L2.St} {H : Hp} {s : Shared} {p : Addr × Obj} (I : Inv X (p :: pins) σ H s) : Inv X pins σ H s := I.pins_of fun q hq => I.pin q (List.mem_append_right _ (List.mem_cons_of_mem _ hq))
/-- the bound initializer is called: the exception's arguments are set, nothing of them is told -/
theorem mw_call {X : Cx} {pins : List (Addr × Obj)} {σ : L2.St} {H : Hp} {s : Shared} {C a u : Addr} {us : List Value} {Q : Value → Shared → Prop} {E : Value → Shared → Prop} {A : Around} (T : OexC X.K C) (I : Inv X pins σ H s) (e : H a = some (exo a C none)) (hu : s.heap.get? u = some (PySem.W.kxs_mw "ValueError.__init__" a)) (hl : us.length ≤ sizeLine)
    (h : ∀ s', Inv X pins σ H s' → Q .none s') : wpAny (model X.prog X.w) A (call (.ref u) us) Q E s := by
  obtain ⟨nm, q, N, bs, bm, sn, sub, ab, col, dd, k0, k1, k2, k3, k5, hC, hbm⟩ := T.cls
  obtain ⟨t1, ho⟩ := exo_at I.hok e
  have kI := I.kIn _ _ hC
  have eu : upd H a (exo a C none) = H := by
    funext b
    by_cases hb : b = a
    · rw [hb, upd_same, e]
    · rw [upd_ne hb]
  obtain ⟨hp, g, d, t, os⟩ := s
  refine wpAny_call (codeAny_of_tree ?_)
  show wpAny _ A.in1 (callAny (.ref u) ⟨us, []⟩) _ _ _
  simp only [callAny]
  refine wpAny_bind (wpAny_load hu ?_)
  simp only [PySem.W.kxs_mw, show (Value.type "method-wrapper" == Value.type "method" || Value.type "method-wrapper" == Value.type "builtin_function_or_method" || Value.type "method-wrapper" == Value.type "method-wrapper") = true by decide, if_true]
  refine PySem.W.KFB.if_so (by decide) ?_
  refine wpAny_bind (PySem.W.check_bound_init PySem.F.excBase_ValueError.toExcCallFacts kI ho rfl ?_)
  refine wpAny_bind (wpAny_pure (wpAny_pure ?_))
  refine ⟨plainId_quiet PySem.F.excBase_ValueError.init.plain _, codeAny_builtin PySem.F.excBase_ValueError.initEntry ?_⟩
  refine PySem.W.exc_init_tree (cls := .ref C) (t0 := t1) (dv := none) (c2 := .none) (c3 := .none) (b4 := .bool false) ho hl fun h' k hx _ => ?_
  have J := I.write (t' := t) (x := a) (e := a) (o := exo a C none) (by rw [e]; exact True.intro) (.inl rfl) k ⟨_, hx⟩ (exo_ok hx)
  rw [eu] at J
  exact h _ J
/-- such a method keeps its promise -/
theorem sup_fn {CX : CXT} {P : Program} {w : World} {K : PySem.W.Frag} {mg : Str → Option Value} {base : Heap} {k : Nat} {f cda cc D : Addr} {fd : FuncData} {qual : Str} {st : Stmt} {N ps : List Str} {sp : Sp} {ar : Arg} {x : Expr} {rest : List Stmt} {p0 p1 p2 pos1 pos2 : Pos} {pl : Sem Bool}
    (F : SupF P K qual st f fd cda cc D) (T : OexC K D) (hst : L2.defBody st = .Expr (.Call (.Attribute (.Call (.Name "super" p0) [] [] p1) "__init__" p2) [x] [] pos1) pos2 :: rest) (S : NScope N ps ["__class__"] (L2.defScope st))
    (hself : ((L2.defArgs st).posonlyargs ++ (L2.defArgs st).args).head? = some ar) (hN0 : N[0]? = some ar.arg) (hka : (L2.defScope st).names.lookup ar.arg = some .local) (hks : (L2.defScope st).names.lookup ("super" : Str) = some .globalImplicit) (hmg : mg "super" = none)
    (hpl : ∀ env : Env, eval (.Call (.Attribute (.Call (.Name "super" p0) [] [] p1) "__init__" p2) [x] [] pos1) env = (do
      let ov ← attributeBase (.Call (.Name "super" p0) [] [] p1) "__init__" env (eval (.Call (.Name "super" p0) [] [] p1) env)
      standAt p2.atName
      let (f, first) ← holding [ov] (getMethod ov "__init__" pl)
      callWith pos1 f first (backTo pos1 (starEach [x] env)) [])) (hsw : ∀ (l : Nat) (env : Env), swapsWith (.Call (.Attribute (.Call (.Name "super" p0) [] [] p1) "__init__" p2) [x] [] pos1) none l env = pure false) (hsx : ∀ env : Env, starEach [x] env = (false, eval x env) :: starEach [] env)
    (len : ∀ vs H Q E, sp vs H Q E → vs.length = ps.length)
    (hbody : ∀ (A : Around) (outer : List Env) (s : Shared) (H : Hp) (vs : List V) (Q : VK) (E : XK), Room k (A.deeper (envF ⟨"__init__", qual, L2.defArgs st, L2.defBody st, L2.defScope st, [("__class__", cc)], cda⟩ f s.heap.objs.size)) → sp vs H Q E →
      ∃ (ta : TA) (tr : TS) (a : Addr) (ws : List V), PA (ncx CX P w K mg base N ⟨"__init__", qual, L2.defArgs st, L2.defBody st, L2.defScope st, [("__class__", cc)], cda⟩ f A outer s H E) [x] ta ∧ PSs (ncx CX P w K mg base N ⟨"__init__", qual, L2.defArgs st, L2.defBody st, L2.defScope st, [("__class__", cc)], cda⟩ f A outer s H E) rest tr ∧
        vs = .ref a :: ws ∧ H a = some (exo a D none) ∧ ta (startF N vs [none]) H (fun us H1 => us.length ≤ 1000 ∧ H1 a = some (exo a D none) ∧ tr { nx := fun _ H' => Q .non H', rt := Q } (startF N vs [none]) H1)) :
    FnOk P w K mg base CX (k + 1) f fd ps sp := by
  obtain ⟨oc, od, kV, doc, pm, an, ct, osl, rfl, lk, hcd⟩ := F.ex
  obtain ⟨oc1, od1, cvs, sl1, file, tf, hcode, hvs, hfile⟩ := F.code
  obtain ⟨oc2, od2, sl2, hcell⟩ := F.cell
  obtain ⟨nm, q, NN, bs, bm, sn, sub, ab, col, dd, k0, k1, k2, k3, k5, hC, hbm⟩ := T.cls
  have hcl : PySem.W.clsIn K D = some { name := nm, bases := bs, mro := .ref D :: bm, ns := NN, qualname := q, hasDict := true, slotNames := sn, subclasses := sub, abstract := ab, collection := col, hasDel := false } := by unfold PySem.W.clsIn; rw [hC] <;> rfl
  refine ⟨len, fun A outer s H args us vs Q E hr e0 hb r hsp => ?_⟩
  have hl := len _ _ _ _ hsp
  have KX : K.In s.heap := e0.mod.kin.keeps fun b o e => (e0.bs b o e).1
  have lim : s.heap.NoLimit := e0.mod.nolimit.keeps fun b o e => (e0.bs b o e).1
  have kc : (L2.defScope st).names.lookup ("__class__" : Str) = some .free := S.frk _ (by simp)
  refine ks_codeAny_call_defAt (body := .Expr (.Call (.Attribute (.Call (.Name "super" p0) [] [] p1) "__init__" p2) [x] [] pos1) pos2 :: rest) (binds := ps.zip us) hr.depth (KX _ _ lk) rfl lim (PySem.W.codeRec_of KX hcd) (by rw [← hst]) hb S.nocell (fun ⟨n, v⟩ hy => S.par n (List.of_mem_zip hy).1) (fun h₁ hns kp => ?_) S.co S.gen S.kind
  obtain ⟨ta, tr, a, ws, hx, hrest, rfl, ea, hq⟩ := hbody A outer s H vs Q E (hr.deeper _) hsp
  have hlk : ∀ (y : Str) (c : Addr), List.lookup y [(("__class__" : Str), cc)] = some c → y = "__class__" ∧ c = cc := fun y c e => by
    cases h : (y == ("__class__" : Str)) with
    | true => simp only [List.lookup, h, Option.some.injEq] at e; exact ⟨beq_iff_eq.mp h, e.symm⟩
    | false => simp [List.lookup, h] at e
  have cells : CellsAt [(("__class__" : Str), cc)] ["__class__"] [none] s.heap H := by
    refine ⟨rfl, fun y c e => ?_, fun y z c e1 e2 => (hlk y c e1).1.trans (hlk z c e2).1.symm, fun i y e => ?_⟩
    · rw [(hlk y c e).2]; exact ⟨(e0.bs _ _ (e0.mod.kin _ _ hcell)).2, _, _, KX _ _ hcell, rfl⟩
    · match i, e with
      | 0, e => cases e; exact ⟨cc, rfl, fun v hv => by cases hv⟩
  have I : Inv (ncx CX P w K mg base N ⟨"__init__", qual, L2.defArgs st, L2.defBody st, L2.defScope st, [("__class__", cc)], cda⟩ f A outer s H E) [] (startF N (V.ref a :: ws) [none]) H { s with heap := h₁, toks := s.toks + (ps.zip us).length } := inv_startN (F := ⟨"__init__", qual, L2.defArgs st, L2.defBody st, L2.defScope st, [("__class__", cc)], cda⟩) S hr.hd e0 hl r cells hns kp
  refine ks_wpAt_execs_cons (ks_wpAt_Expr_any (ks_wpAt_MethodCall (pl := pl) ?_ (hpl _)) I.quiet (hsw _ _))
  have ho := exo_at I.hok ea
  obtain ⟨t1, ho⟩ := ho
  obtain ⟨mb, hb1, hb2⟩ := I.mod.blt
  have hD := I.kIn _ _ hC
  refine ks_wpAt_super_base hks kc rfl rfl (I.kIn _ _ lk) rfl hself rfl (I.kIn _ _ hcode) rfl hvs hfile F.top ?_
  refine PySem.W.ks_loadName_global S.kind hks (Calls.loadGlobal_builtin (I.mod.glob.keeps I.bk) hmg (hb1.keeps I.bk) ((hb2 _ (by decide)).trans (by first | boot_by_name | rfl | kernel_rfl)) ⟨rfl, ?_⟩)
  refine wpAny_loadName_free S.kind kc rfl ⟨_, I.kIn _ _ hcell, rfl⟩ ?_
  obtain ⟨m, hn, hlo⟩ := I.loc
  obtain ⟨u, ru, lku⟩ := hlo 0 ar.arg (.ref a) hN0 rfl (.inl hka)
  obtain rfl : u = Value.ref a := ru
  have hv : m ar.arg = some (Value.ref a) := by
    rcases lku with ⟨_, z⟩ | ⟨z, _⟩
    · exact z
    · have z' : (L2.defScope st).names.lookup ar.arg = some .cell ∨ (L2.defScope st).names.lookup ar.arg = some .free := z
      rw [hka] at z'; rcases z' with z' | z' <;> cases z'
  refine wpAny_loadName_local S.kind hka hn hv ?_
  refine ks_wpAny_isType_cls hD rfl ⟨rfl, ?_⟩
  refine ks_wpAny_call_super hD rfl ho rfl (fun c z => by cases z) (PySem.W.looks_mroIn I.kIn F.sub) (fun h' eso kk => ?_)
  have I1 := I.kept (t' := s.toks + (ps.zip us).length) kk
  have ho1 := kk _ _ ho
  have LT : PySem.W.Looks (model P w) h' (typeOf (.ref a)) (.ref D) := fun A Q E s k q => wpAny_typeOf_ref (k _ _ ho1) q
  have LI : PySem.W.Looks (model P w) h' (isInstance (.ref a) (.type "ValueError")) true := LT.andThen (PySem.W.looks_subIn I1.kIn F.subV)
  have ne : a ≠ D := fun z => by
    subst z
    rw [ho] at hD
    cases hD
  have hsup : PySem.W.alongIn K "__init__" (((Value.ref D :: bm).dropWhile (· != Value.ref D)).drop 1) = some (some (.builtin "ValueError.__init__")) := by
    have z := F.sup
    unfold PySem.W.ks_superIn at z
    rw [hcl] at z
    exact z
  refine PySem.W.kxs_getMethod PySem.W.kxs_ValueError eso (PySem.W.looks_opaque I1.kIn F.any) (l₀ := .ref D :: bm) (fun A Q E s k q => wpAny_bind ((PySem.W.looks_clsIn I1.kIn hcl) A _ E s k (wpAny_pure q))) rfl I1.kIn hsup LI ne rfl ?_
  have I2 := I1.kept (t' := s.toks + (ps.zip us).length + 1) (h' := h'.push (PySem.W.kxs_mw "ValueError.__init__" a)) (fun b o e => Heap.get?_push_of_some _ e)
  have gu : (h'.push (PySem.W.kxs_mw "ValueError.__init__" a)).get? h'.objs.size = some (PySem.W.kxs_mw "ValueError.__init__" a) := Heap.get?_push_size _ rfl
  have nl : h'.objs.size ≠ s.heap.objs.size := Nat.ne_of_gt I1.lt
  have I3 := inv_pin (p := (h'.objs.size, PySem.W.kxs_mw "ValueError.__init__" a)) I2 ⟨gu, I1.hok.fresh (Nat.le_refl _), nl, I1.nofs (Nat.le_refl _), fun v z => nomatch z⟩
  have hxr := fun pos => hx.run pos _ _ _ _ _ I3 hq
  have hsx' := hsx (envF ⟨"__init__", qual, L2.defArgs st, L2.defBody st, L2.defScope st, [("__class__", cc)], cda⟩ f s.heap.objs.size)
  show wpAny _ _ (callWith pos1 (.ref h'.objs.size) [] (backTo pos1 (starEach [x] (envF ⟨"__init__", qual, L2.defArgs st, L2.defBody st, L2.defScope st, [("__class__", cc)], cda⟩ f s.heap.objs.size))) []) _ _ _
  have hx1 := hxr pos1
  have hx2 : wpAny (model P w) (A.deeper (envF ⟨"__init__", qual, L2.defArgs st, L2.defBody st, L2.defScope st, [("__class__", cc)], cda⟩ f s.heap.objs.size)) (spliced (backTo pos1 (starEach [x] (envF ⟨"__init__", qual, L2.defArgs st, L2.defBody st, L2.defScope st, [("__class__", cc)], cda⟩ f s.heap.objs.size)))) _ _ _ := hx1
  rw [hsx'] at hx2 ⊢
  refine PySem.W.kxs_callWith (i := "ValueError.__init__") (x := a) rfl (Calls.evalArgs_plain (wpAny_mono hx2 (fun vv s1 hs1 => ?_) fun e s' z => z))
  obtain ⟨vs1, H1, J1, r1, hz, ea1, q1⟩ := hs1
  have pu := (J1.pin _ (List.mem_append_right _ List.mem_cons_self)).1
  refine ⟨pu, ?_⟩
  refine mw_call T J1 ea1 pu (by rw [List.nil_append, ← Paired.length r1, sizeLine_eq]; omega) fun s2 J2 => ?_
  refine wpAt_of_wpAny (wpAny_mono (hrest.run [] _ _ _ _ (inv_unpin J2) q1) (fun fl s' hs => ?_) fun e s' z => z)
  have fin : ∀ {σ' : L2.St} {H' : Hp} {v : V} {u : Value}, Inv (ncx CX P w K mg base N ⟨"__init__", qual, L2.defArgs st, L2.defBody st, L2.defScope st, [("__class__", cc)], cda⟩ f A outer s H E) [] σ' H' s' → RelV v u → Q v H' → CE outer P w H s Q u s' :=
    fun {σ' H' v u} J rv q => ⟨v, H', J.os, J.bare, J.base, J.hok, rv, q⟩
  cases fl with
  | ret u =>
    obtain ⟨v, σ', H', J, rv, q⟩ := hs
    exact fin J rv q
  | next =>
    obtain ⟨σ', H', J, q⟩ := hs
    exact fin (v := V.non) (u := Value.none) J rfl q
  | brk =>
    obtain ⟨_, _, _, q⟩ := hs
    exact False.elim q
  | cont =>
    obtain ⟨_, _, _, q⟩ := hs
    exact False.elim q
end Sw
namespace Sw
open PySem PySem.Spec PyProof.Rows L2 Evl LamX NdefX
/-! ### promises of defs that may raise -/
section
variable {P : Program} {w : World} {K : PySem.W.Frag} {mg : Str → Option Value} {base : Heap} {CX : CXT} {k : Nat} {f : Addr} {fd : FuncData} {ps : List Str} {sp sp' : Sp}
theorem fn_lift (F : FnOk P w K mg base L2.CX0 k f fd ps sp) : FnOk P w K mg base CX k f fd ps sp := ⟨F.len, fun A outer s H args us vs Q E hr e0 hb r h => codeAny_mono (F.run A outer s H args us vs Q E hr e0 hb r h) fun r s' hq => by
  match r, hq with
  | .error e, hq => exact (show False from hq).elim
  | .ok (.ret u), hq => exact hq
  | .ok .next, hq => exact (show False from hq).elim
  | .ok .brk, hq => exact (show False from hq).elim
  | .ok .cont, hq => exact (show False from hq).elim⟩
def spOr (a b : Sp) : Sp := fun vs H Q E => a vs H Q E ∨ b vs H Q E
theorem fn_or (F : FnOk P w K mg base CX k f fd ps sp) (G : FnOk P w K mg base CX k f fd ps sp') : FnOk P w K mg base CX k f fd ps (spOr sp sp') := ⟨fun vs H Q E h => h.elim (F.len vs H Q E) (G.len vs H Q E), fun A outer s H args us vs Q E hr e0 hb r h => h.elim (F.run A outer s H args us vs Q E hr e0 hb r) (G.run A outer s H args us vs Q E hr e0 hb r)⟩
end
/-! ### a call, within a try, of what goes with an address -/
def tCalS (P : Program) (w : World) (K : PySem.W.Frag) (mg : Str → Option Value) (base : Heap) (CX : CXT) (k i : Nat) (E : L2.St → XK) : TE := fun σ H Q => ∃ f sp S, σ[i]? = some (some (.ref f)) ∧ Cal P w K mg base CX k f sp S ∧ Ex S H ∧ sp [] H Q (E σ)
theorem pe_calS (P : Program) (w : World) (K : PySem.W.Frag) (mg : Str → Option Value) (base : Heap) {X : Cx} {CX : CXT} {i j k : Nat} {x : Str} {E : L2.St → XK} {p pos : Pos} (h1 : X.prog = P) (h2 : X.w = w) (h3 : X.K = K) (h4 : X.mg = mg) (h5 : X.base = base) (hr : Room j X.A) (hk : k ≤ j) (hx : ∀ σ, PassesAt CX X σ (E σ)) (hN : X.N[i]? = some x) (hv : Vis X.env.scope x)
    (hd : (x == ("__debug__" : Str)) = false := by decide) (hcd : (x == ("__classdict__" : Str)) = false := by decide) : PE X (.Call (.Name x p) [] [] pos) (tCalS P w K mg base CX k i E) := by
  subst h1 h2 h3 h4 h5
  refine ⟨fun pins s σ H Q I ⟨f, sp, S, hs, C, eS, q⟩ => ?_⟩
  refine wpAny_Call_Name_kw (thn ((pe_var (pos := p) hN hv hd hcd).run pins s σ H (fun v H1 => v = .ref f ∧ H1 = H) I ⟨.ref f, hs, rfl, rfl⟩) fun u s1 ⟨v, H1, I1, r1, ev, eH⟩ => ?_)
  subst ev eH
  obtain rfl : u = Value.ref f := r1
  refine PySem.W.callWith_F0 (first := []) (lam_fnAt I1 C eS) (wpAny_call (codeAny_mono (C.2 X.A X.stack s1 H1 [] [] Q (E σ) eS (hr.mono hk) I1.env0 .nil q) fun r s' hq => ?_))
  match r, hq with
  | .error e, hq => exact hx σ pins H1 s1 e s' I1 hq
  | .ok (.ret u), hq => exact I1.after hq
  | .ok .next, hq => exact False.elim hq
  | .ok .brk, hq => exact False.elim hq
  | .ok .cont, hq => exact False.elim hq
/-! ### isinstance of the caught exception -/
structure ExI (K : PySem.W.Frag) (C : Addr) : Prop where
  cl : (PySem.W.clsIn K C).isSome = true
  ga : PySem.W.findIn K (.ref C) "__getattribute__" = some (some (.builtin "BaseException.__getattribute__"))
  gg : PySem.W.findIn K (.ref C) "__getattr__" = some none
  ex : PySem.W.subIn K (.ref C) (.type "BaseException") = some true
  hd : PySem.W.hasDictIn K C = true
  ca : PySem.W.findIn K (.ref C) "__class__" = some (some (.builtin "object.__class__"))
  cg : PySem.W.specialIn K (.builtin "object.__class__") "__get__" = some (some (.builtin "getset_descriptor.__get__"))
  ct : PySem.W.takesIn K (.builtin "object.__class__") = some true
  mo : PySem.W.mroIn K C (.type "object") = some true
theorem ExI.xf {K : PySem.W.Frag} {C : Addr} (T : ExI K C) : XfC K C := ⟨T.ga, T.gg, T.ex, T.hd⟩
def rIsX (K : PySem.W.Frag) (a : Addr) (cls : Value) (d : Option Addr) : List V → Hp → VK → Prop := fun xs H Q => ∃ (D : Addr) (c : V) (cv : Value) (b : Bool), cls = .ref D ∧ ExI K D ∧ xs = [.ref a, c] ∧ (∀ u, RelV c u → u = cv) ∧ PySem.W.kitOne K (.ref D) cv = some b ∧ (∀ dd, d = some dd → ∃ fs, H dd = some (.xd fs)) ∧ Q (.bl b) H
theorem call_isX {X : Cx} (K : PySem.W.Frag) (hK : X.K = K) {a : Addr} {cls : Value} {d : Option Addr} {oe : Obj} {pn : List (Addr × Obj)} (hz : Zc cls d oe) (hf : ∃ vs, oe.data = .fields vs) : CallR (X.suite a ((a, oe) :: pn)) (.builtin "isinstance") (rIsX K a cls d) := by
  subst hK
  intro pins s σ H xs us Q I r h
  obtain ⟨D, c, cv, b, rfl, T, rfl, hcv, e, hd, q⟩ := h
  cases r with
  | cons rx rr =>
    cases rr with
    | cons rt rr =>
      cases rr
      cases rx
      have ec := hcv _ rt
      subst ec
      have hget := (I.pin (a, oe) (List.mem_append.mpr (.inl List.mem_cons_self))).1
      obtain ⟨fv, hv⟩ := hf
      obtain ⟨oc, od, oda, osl⟩ := oe
      obtain ⟨z1, z2⟩ := hz
      dsimp only at z1 z2 hv
      subst z1 z2 hv
      have go : ∀ o2, PySem.W.InstAt s.heap a ⟨.ref D, od, .fields fv, osl⟩ D o2 → wpAny (model X.prog X.w) (X.suite a ((a, ⟨.ref D, od, .fields fv, osl⟩) :: pn)).A (call (.builtin "isinstance") [.ref a, _]) (EP (X.suite a ((a, ⟨.ref D, od, .fields fv, osl⟩) :: pn)) pins σ Q) (X.suite a ((a, ⟨.ref D, od, .fields fv, osl⟩) :: pn)).xe s := fun o2 J =>
        PySem.W.kia_one (PySem.W.kitx_exc T.cl T.ga T.gg T.ex T.ca T.cg T.ct T.mo) I.kIn J e (fun z => nomatch z) fun tk => ⟨.bl b, H, I.kept (t' := tk) fun _ _ z => z, rfl, q⟩
      cases od with
      | none => exact go none ⟨hget, rfl, rfl, trivial⟩
      | some dd =>
        obtain ⟨fs, hfs⟩ := hd dd rfl
        obtain ⟨mA, hns, _⟩ := (I.hok dd _ hfs : ObjOk _ _ _ _ dd (.xd fs))
        obtain ⟨o, es, ep, ho, _⟩ := hns
        exact go (some o) ⟨hget, rfl, rfl, ho⟩
theorem ev_isX {K : PySem.W.Frag} {σ : L2.St} {H : Hp} {te tc : TE} {a D dd : Addr} {c : V} {cv : Value} {b : Bool} {fs : List (Str × V)} (T : ExI K D) (he : Ev te σ H (.ref a)) (hc : Ev tc σ H c) (hcv : ∀ u, RelV c u → u = cv) (hb : PySem.W.kitOne K (.ref D) cv = some b) (hd : H dd = some (.xd fs)) :
    Ev (tCB (rIsX K a (.ref D) (some dd)) (tCons te (tCons tc tNil))) σ H (.bl b) := fun H1 e Q q => he H1 e _ fun H2 e2 => hc H2 (e.trans e2) _ fun H3 e3 => ⟨D, c, cv, b, rfl, T, rfl, hcv, hb, fun d1 z => by cases z; exact ⟨fs, e3 _ _ (e2 _ _ (e _ _ hd))⟩, q H3 (e2.trans e3)⟩
/-! ### count and index of flat items -/
theorem eq_count {y : V} : ∀ {ys : List V} {us : List Value}, Vals ys us → ys.all flatV = true → us.countP (eqU y) = ys.countP (fun z => eqV z y)
  | _, _, .nil, _ => rfl
  | _, _, .cons (a := z) (b := u) r rs, f => by
    rw [List.all_cons, Bool.and_eq_true] at f
    rw [List.countP_cons, List.countP_cons, eq_count rs f.2, eqU_of r f.1]
def rCntF (K : PySem.W.Frag) : V → List V → Hp → VK → Prop := fun x xs H Q => ∃ (p : Addr) (ys : List V) (y : V), x = .ref p ∧ xs = [y] ∧ SqL K H p ys ∧ flatV y = true ∧ ys.all flatV = true ∧ Q (.int (ys.countP (fun z => eqV z y) : Nat)) H
theorem mt_lcountF {X : Cx} (K : PySem.W.Frag) (hK : X.K = K) : MtR X "list.count" (rCntF K) := by
  subst hK
  intro pins s σ H x xs v us Q I rx rxs ⟨p, ys, y, ex, exs, hs, fy, fys, q⟩
  subst ex exs
  cases rx
  obtain ⟨uy, rfl, ry⟩ := rxs.one
  obtain ⟨its, rv, ⟨⟨cls, dd, data, sl⟩, n, ho, hc, hdn, hd⟩, hlen⟩ := I.list hs
  simp only at hc hd
  subst hc hd
  refine call_meets PySem.F.slot_list_count ⟨_, ho, rfl⟩ PySem.F.entry_list_count (PySem.F.args_list_count_2 _ _) (SeqAt.list_countAt p its.toArray n dd sl uy (eqU y)) ⟨ho, fun u hu => mem_eqAt ry fy rv fys u (by simpa using hu), ?_⟩
  refine ⟨.int (ys.countP (fun z => eqV z y) : Nat), H, I.tok _, ⟨s.toks, ?_⟩, q⟩
  show Value.int ((its.toArray.toList.countP (eqU y) : Nat) : Int) s.toks = Value.int ((ys.countP (fun z => eqV z y) : Nat) : Int) s.toks
  rw [show its.toArray.toList = its from rfl, eq_count rv fys]
theorem mt_indexK {X : Cx} (K : PySem.W.Frag) (hK : X.K = K) : MtR X "list.index" (rIndex K) := by
  subst hK; exact mt_index
theorem pe_bmK {X : Cx} (K : PySem.W.Frag) {o e : Expr} {es : List Expr} {to : TE} {t : TA} {name : Str} {apos cpos : Pos} {Ty id : String} {r : V → List V → Hp → VK → Prop} (hK : X.K = K) (pa : PlainAttrs Ty) (slot : Slot Ty name id) (hty : typeOf (.builtin id) = pure (.type "method_descriptor")) (hm : MtR X id r) (ho : PE X o to) (ha : PA X (e :: es) t)
    (hbase : attributeBase o name X.env (eval o X.env) = eval o X.env := by rfl)
    (hfew : ((backTo cpos (starEach (e :: es) X.env)).all (fun x => !x.1) && (backToKw cpos (keywordEach [] X.env)).all (fun x => x.1.isSome) && decide ((e :: es).length + ([] : List Keyword).length + (if ([] : List Keyword).isEmpty then 0 else 1) < 30)) = true := by rfl)
    (hline : (apos.endLine == cpos.line) = true := by rfl) (hs : starEach (e :: es) X.env = (false, eval e X.env) :: starEach es X.env := by rfl) (hplain : (backTo cpos (starEach es X.env)).any (·.1) = false := by rfl) : PE X (.Call (.Attribute o name apos) (e :: es) [] cpos) (tBM K Ty r to t) := by
  subst hK; exact pe_bm pa slot hty hm ho ha hbase hfew hline hs hplain
end Sw
namespace Sw
open PySem PySem.Spec PyProof.Rows L2 Evl
/-! ### max and min of a list of numbers -/
section
variable {prog : Program} {w : World} {A : Around} {E : Value → Shared → Prop} {s : Shared} {t : Addr} {xs : Array (Int × Tok)}
theorem max_intLst {Q : Value → Shared → Prop} (hh : A.handled = none) (ht : s.heap.IsList t (intItems xs)) (hne : 0 < xs.size)
    (h : ∀ v h' tk, (intItems xs)[argBest (fun i j => decide (numAt xs i > numAt xs j)) (xs.size - 1)]? = some v → (∀ b o, s.heap.get? b = some o → h'.get? b = some o) → Q v { s with heap := h', toks := tk }) :
    wpAny (model prog w) A (call (.builtin "max") [.ref t]) Q E s := by
  obtain ⟨o, ho, _, _, _⟩ := id ht
  have hlt : t < s.heap.objs.size := Heap.lt_size ho
  have hne' : t ≠ s.heap.objs.size := Nat.ne_of_lt hlt
  refine call_max_walk (wpAny_pyIter_list ht ?_)
  refine ⟨_, _, _, _, _, _, _, rfl, Walks.list (A := A.in1) hh _ t hne' (intItems xs), ⟨⟨_, Heap.get?_push_size _ rfl, rfl, rfl⟩, ht.push _⟩, fun b hb => ?_, by simpa [intItems] using hne, CmpOf.ints_gt (numAt xs) (fun _ _ => intItems_at), fun v h' tk hP hk => ?_⟩
  · show b < (s.heap.push _).objs.size
    rw [Heap.size_push]
    rcases List.mem_cons.mp hb with rfl | hb
    · exact Nat.lt_succ_self _
    · rw [List.mem_singleton.mp hb]; exact Nat.lt_succ_of_lt hlt
  · refine h v h' tk (by simpa [intItems] using hP) fun b o e => hk b o (fun hm => ?_) (Heap.get?_push_of_some _ e)
    exact absurd (List.mem_singleton.mp hm ▸ Heap.lt_size e) (Nat.lt_irrefl _)
end
section
variable {X : Cx}
def rMaxLi (K : PySem.W.Frag) : List V → Hp → VK → Prop := fun vs H Q => ∃ (a : Addr) (ns : List Int), vs = [V.ref a] ∧ SqL K H a (ns.map V.int) ∧ 0 < ns.length ∧ ∀ m, m ∈ ns → (∀ y, y ∈ ns → y ≤ m) → Q (.int m) H
theorem cr_maxLi (hc : X.calm = true) : CallR X (.builtin "max") (rMaxLi X.K) := by
  intro pins s σ H vs us Q I r h
  obtain ⟨a, ns, rfl, hs, hne, q⟩ := h
  obtain ⟨its, rv, hl0, _⟩ := I.list hs
  rw [Vals.ref1 r]
  obtain ⟨xs, e⟩ := rv.ints.allInts.items
  have hn : numsOf (intItems xs).toList = ns := by rw [← e]; exact rv.ints.numsOf
  rw [nums_intItems] at hn
  subst hn
  have hl' : s.heap.IsList a (intItems xs) := by rw [← e]; exact hl0.isList
  have hsz : 0 < xs.size := by simpa using hne
  refine max_intLst (I.ok.hd hc) hl' hsz fun v h' tk hv hk => ?_
  obtain ⟨t', rfl⟩ := intItems_at hv
  obtain ⟨h1, h2⟩ := argBest_gt (numAt xs) (xs.size - 1)
  refine ⟨.int _, H, I.kept hk, ⟨t', rfl⟩, q _ ?_ fun y hy => ?_⟩
  · rw [numAt_eq]; exact PySem.getD_mem (by rw [List.length_map, Array.length_toList]; omega)
  · obtain ⟨j, hj, rfl⟩ := mem_getD hy
    rw [List.length_map, Array.length_toList] at hj
    rw [← numAt_eq]; exact h2 j (by omega)
end
section
variable {prog : Program} {w : World} {A : Around} {E : Value → Shared → Prop} {s : Shared} {t : Addr} {xs : Array (Int × Tok)}
theorem min_intLst {Q : Value → Shared → Prop} (hh : A.handled = none) (ht : s.heap.IsList t (intItems xs)) (hne : 0 < xs.size)
    (h : ∀ v h' tk, (intItems xs)[argBest (fun i j => decide (numAt xs i < numAt xs j)) (xs.size - 1)]? = some v → (∀ b o, s.heap.get? b = some o → h'.get? b = some o) → Q v { s with heap := h', toks := tk }) :
    wpAny (model prog w) A (call (.builtin "min") [.ref t]) Q E s := by
  obtain ⟨o, ho, _, _, _⟩ := id ht
  have hlt : t < s.heap.objs.size := Heap.lt_size ho
  have hne' : t ≠ s.heap.objs.size := Nat.ne_of_lt hlt
  refine call_min_walk (wpAny_pyIter_list ht ?_)
  refine ⟨_, _, _, _, _, _, _, rfl, Walks.list (A := A.in1) hh _ t hne' (intItems xs), ⟨⟨_, Heap.get?_push_size _ rfl, rfl, rfl⟩, ht.push _⟩, fun b hb => ?_, by simpa [intItems] using hne, CmpOf.ints_lt (numAt xs) (fun _ _ => intItems_at), fun v h' tk hP hk => ?_⟩
  · show b < (s.heap.push _).objs.size
    rw [Heap.size_push]
    rcases List.mem_cons.mp hb with rfl | hb
    · exact Nat.lt_succ_self _
    · rw [List.mem_singleton.mp hb]; exact Nat.lt_succ_of_lt hlt
  · refine h v h' tk (by simpa [intItems] using hP) fun b o e => hk b o (fun hm => ?_) (Heap.get?_push_of_some _ e)
    exact absurd (List.mem_singleton.mp hm ▸ Heap.lt_size e) (Nat.lt_irrefl _)
end
section
variable {X : Cx}
def rMinLi (K : PySem.W.Frag) : List V → Hp → VK → Prop := fun vs H Q => ∃ (a : Addr) (ns : List Int), vs = [V.ref a] ∧ SqL K H a (ns.map V.int) ∧ 0 < ns.length ∧ ∀ m, m ∈ ns → (∀ y, y ∈ ns → m ≤ y) → Q (.int m) H
theorem cr_minLi (hc : X.calm = true) : CallR X (.builtin "min") (rMinLi X.K) := by
  intro pins s σ H vs us Q I r h
  obtain ⟨a, ns, rfl, hs, hne, q⟩ := h
  obtain ⟨its, rv, hl0, _⟩ := I.list hs
  rw [Vals.ref1 r]
  obtain ⟨xs, e⟩ := rv.ints.allInts.items
  have hn : numsOf (intItems xs).toList = ns := by rw [← e]; exact rv.ints.numsOf
  rw [nums_intItems] at hn
  subst hn
  have hl' : s.heap.IsList a (intItems xs) := by rw [← e]; exact hl0.isList
  have hsz : 0 < xs.size := by simpa using hne
  refine min_intLst (I.ok.hd hc) hl' hsz fun v h' tk hv hk => ?_
  obtain ⟨t', rfl⟩ := intItems_at hv
  obtain ⟨h1, h2⟩ := argBest_lt (numAt xs) (xs.size - 1)
  refine ⟨.int _, H, I.kept hk, ⟨t', rfl⟩, q _ ?_ fun y hy => ?_⟩
  · rw [numAt_eq]; exact PySem.getD_mem (by rw [List.length_map, Array.length_toList]; omega)
  · obtain ⟨j, hj, rfl⟩ := mem_getD hy
    rw [List.length_map, Array.length_toList] at hj
    rw [← numAt_eq]; exact h2 j (by omega)
end
theorem ev_maxLi {K : PySem.W.Frag} {σ : L2.St} {H : Hp} {ta : TE} {a : Addr} {ns : List Int} {top : Int} (h : Ev ta σ H (.ref a)) (hx : SqL K H a (ns.map V.int)) (h0 : top ∈ ns) (h1 : ∀ y ∈ ns, y ≤ top) : Ev (tCB (rMaxLi K) (tCons ta tNil)) σ H (.int top) := fun H1 e Q q =>
  h H1 e _ fun H2 e2 => ⟨a, ns, rfl, ex_l (e.trans e2) hx, List.length_pos_of_mem h0, fun m hm hle => by
    have e : m = top := Int.le_antisymm (h1 m hm) (hle top h0)
    rw [e]; exact q H2 e2⟩
theorem ev_minLi {K : PySem.W.Frag} {σ : L2.St} {H : Hp} {ta : TE} {a : Addr} {ns : List Int} {bot : Int} (h : Ev ta σ H (.ref a)) (hx : SqL K H a (ns.map V.int)) (h0 : bot ∈ ns) (h1 : ∀ y ∈ ns, bot ≤ y) : Ev (tCB (rMinLi K) (tCons ta tNil)) σ H (.int bot) := fun H1 e Q q =>
  h H1 e _ fun H2 e2 => ⟨a, ns, rfl, ex_l (e.trans e2) hx, List.length_pos_of_mem h0, fun m hm hle => by
    have e : m = bot := Int.le_antisymm (hle bot h0) (h1 m hm)
    rw [e]; exact q H2 e2⟩
theorem ex_bot : ∀ {xs : List Int}, 0 < xs.length → ∃ t, t ∈ xs ∧ ∀ y ∈ xs, t ≤ y
  | [], h => absurd h (by decide)
  | [x], _ => ⟨x, by simp, by simp⟩
  | x :: y :: r, _ => by
    obtain ⟨t, ht, hm⟩ := ex_bot (xs := y :: r) (by simp)
    rcases Int.le_total x t with z | z
    · exact ⟨x, List.mem_cons_self, fun u hu => by rcases List.mem_cons.mp hu with e | e; omega; have := hm u e; omega⟩
    · exact ⟨t, List.mem_cons_of_mem _ ht, fun u hu => by rcases List.mem_cons.mp hu with e | e; omega; exact hm u e⟩
theorem ex_top : ∀ {xs : List Int}, 0 < xs.length → ∃ t, t ∈ xs ∧ ∀ y ∈ xs, y ≤ t
  | [], h => absurd h (by decide)
  | [x], _ => ⟨x, by simp, by simp⟩
  | x :: y :: r, _ => by
    obtain ⟨t, ht, hm⟩ := ex_top (xs := y :: r) (by simp)
    rcases Int.le_total x t with z | z
    · exact ⟨t, List.mem_cons_of_mem _ ht, fun u hu => by rcases List.mem_cons.mp hu with e | e; omega; exact hm u e⟩
    · exact ⟨x, List.mem_cons_self, fun u hu => by rcases List.mem_cons.mp hu with e | e; omega; have := hm u e; omega⟩
end Sw
namespace Sw
open PySem PySem.Spec PyProof.Rows L2 Evl
def topS (i : Nat) : Stmt := PySem.Challenge.pw_staleloaves_k09_whole_hidden_lives.main.body.getD i (.Pass ⟨0, 0, 0, 0⟩)
abbrev s_InvalidBakery___init__ : Stmt := inClass (topS 6) 0
abbrev n_InvalidBakery___init__ : List Str := ["self", "part", "index", "__class__"]
abbrev p_InvalidBakery___init__ : List Str := ["self", "part", "index"]
theorem sc_InvalidBakery___init__ : NdefX.NScope n_InvalidBakery___init__ p_InvalidBakery___init__ ["__class__"] (defScope s_InvalidBakery___init__) := NdefX.nscope_by (by decide +kernel)
abbrev s_InvalidDays___init__ : Stmt := inClass (topS 8) 0
abbrev n_InvalidDays___init__ : List Str := ["self", "index", "__class__"]
abbrev p_InvalidDays___init__ : List Str := ["self", "index"]
theorem sc_InvalidDays___init__ : NdefX.NScope n_InvalidDays___init__ p_InvalidDays___init__ ["__class__"] (defScope s_InvalidDays___init__) := NdefX.nscope_by (by decide +kernel)
abbrev s_check_number : Stmt := topS 13
abbrev n_check_number : List Str := ["number", "lowest", "highest"]
abbrev p_check_number : List Str := ["number", "lowest", "highest"]
theorem sc_check_number : FnScope n_check_number p_check_number (defScope s_check_number) := ⟨rfl, rfl, rfl, by decide +kernel, rfl, by decide +kernel, by decide +kernel⟩
abbrev s_count_keepable : Stmt := topS 2
abbrev n_count_keepable : List Str := ["bakes", "life", "length", "at", "age"]
abbrev p_count_keepable : List Str := ["bakes", "life"]
theorem sc_count_keepable : FnScope n_count_keepable p_count_keepable (defScope s_count_keepable) := ⟨rfl, rfl, rfl, by decide +kernel, rfl, by decide +kernel, by decide +kernel⟩
abbrev s_Course___init__ : Stmt := inClass (topS 3) 0
abbrev n_Course___init__ : List Str := ["self", "bakes", "demands", "life"]
abbrev p_Course___init__ : List Str := ["self", "bakes", "demands", "life"]
theorem sc_Course___init__ : FnScope n_Course___init__ p_Course___init__ (defScope s_Course___init__) := ⟨rfl, rfl, rfl, by decide +kernel, rfl, by decide +kernel, by decide +kernel⟩
abbrev s_Course_stock_at : Stmt := inClass (topS 3) 1
abbrev n_Course_stock_at : List Str := ["self", "day", "rounds", "at"]
abbrev p_Course_stock_at : List Str := ["self", "day"]
theorem sc_Course_stock_at : FnScope n_Course_stock_at p_Course_stock_at (defScope s_Course_stock_at) := ⟨rfl, rfl, rfl, by decide +kernel, rfl, by decide +kernel, by decide +kernel⟩
abbrev s_Course_sales_on : Stmt := inClass (topS 3) 2
abbrev n_Course_sales_on : List Str := ["self", "day", "rounds", "at", "stocks", "loaves", "sold"]
abbrev p_Course_sales_on : List Str := ["self", "day"]
theorem sc_Course_sales_on : FnScope n_Course_sales_on p_Course_sales_on (defScope s_Course_sales_on) := ⟨rfl, rfl, rfl, by decide +kernel, rfl, by decide +kernel, by decide +kernel⟩
abbrev s_Course_find_settled : Stmt := inClass (topS 3) 5
abbrev n_Course_find_settled : List Str := ["self", "rounds", "stocks", "later", "at"]
abbrev p_Course_find_settled : List Str := ["self"]
theorem sc_Course_find_settled : FnScope n_Course_find_settled p_Course_find_settled (defScope s_Course_find_settled) := ⟨rfl, rfl, rfl, by decide +kernel, rfl, by decide +kernel, by decide +kernel⟩
abbrev s_Course_sum_settled_round : Stmt := inClass (topS 3) 6
abbrev n_Course_sum_settled_round : List Str := ["self", "missed", "sold"]
abbrev p_Course_sum_settled_round : List Str := ["self"]
theorem sc_Course_sum_settled_round : FnScope n_Course_sum_settled_round p_Course_sum_settled_round (defScope s_Course_sum_settled_round) := ⟨rfl, rfl, rfl, by decide +kernel, rfl, by decide +kernel, by decide +kernel⟩
abbrev s_Course__play_round : Stmt := inClass (topS 3) 7
abbrev n_Course__play_round : List Str := ["self", "stock", "stocks", "bake", "demand", "most", "left"]
abbrev p_Course__play_round : List Str := ["self", "stock"]
theorem sc_Course__play_round : FnScope n_Course__play_round p_Course__play_round (defScope s_Course__play_round) := ⟨rfl, rfl, rfl, by decide +kernel, rfl, by decide +kernel, by decide +kernel⟩
abbrev s_Course__stocks_in : Stmt := inClass (topS 3) 8
abbrev n_Course__stocks_in : List Str := ["self", "rounds", "start"]
abbrev p_Course__stocks_in : List Str := ["self", "rounds"]
theorem sc_Course__stocks_in : FnScope n_Course__stocks_in p_Course__stocks_in (defScope s_Course__stocks_in) := ⟨rfl, rfl, rfl, by decide +kernel, rfl, by decide +kernel, by decide +kernel⟩
abbrev s_Course__misses_in : Stmt := inClass (topS 3) 9
abbrev n_Course__misses_in : List Str := ["self", "rounds", "stocks", "at", "demand"]
abbrev p_Course__misses_in : List Str := ["self", "rounds"]
theorem sc_Course__misses_in : FnScope n_Course__misses_in p_Course__misses_in (defScope s_Course__misses_in) := ⟨rfl, rfl, rfl, by decide +kernel, rfl, by decide +kernel, by decide +kernel⟩
abbrev s_Course__count_growing : Stmt := inClass (topS 3) 10
abbrev n_Course__count_growing : List Str := ["self"]
abbrev p_Course__count_growing : List Str := ["self"]
theorem sc_Course__count_growing : FnScope n_Course__count_growing p_Course__count_growing (defScope s_Course__count_growing) := ⟨rfl, rfl, rfl, by decide +kernel, rfl, by decide +kernel, by decide +kernel⟩
abbrev s_check_amounts : Stmt := topS 15
abbrev n_check_amounts : List Str := ["part", "amounts", "at", "amount"]
abbrev p_check_amounts : List Str := ["part", "amounts"]
theorem sc_check_amounts : FnScope n_check_amounts p_check_amounts (defScope s_check_amounts) := ⟨rfl, rfl, rfl, by decide +kernel, rfl, by decide +kernel, by decide +kernel⟩
abbrev s_check_life : Stmt := topS 16
abbrev n_check_life : List Str := ["life"]
abbrev p_check_life : List Str := ["life"]
theorem sc_check_life : FnScope n_check_life p_check_life (defScope s_check_life) := ⟨rfl, rfl, rfl, by decide +kernel, rfl, by decide +kernel, by decide +kernel⟩
abbrev s_check_bakery : Stmt := topS 17
abbrev n_check_bakery : List Str := ["bakes", "demands", "life"]
abbrev p_check_bakery : List Str := ["bakes", "demands", "life"]
theorem sc_check_bakery : FnScope n_check_bakery p_check_bakery (defScope s_check_bakery) := ⟨rfl, rfl, rfl, by decide +kernel, rfl, by decide +kernel, by decide +kernel⟩
abbrev s_Bakery___init__ : Stmt := inClass (topS 18) 2
abbrev n_Bakery___init__ : List Str := ["self", "bakes", "demands", "life"]
abbrev p_Bakery___init__ : List Str := ["self", "bakes", "demands", "life"]
theorem sc_Bakery___init__ : FnScope n_Bakery___init__ p_Bakery___init__ (defScope s_Bakery___init__) := ⟨rfl, rfl, rfl, by decide +kernel, rfl, by decide +kernel, by decide +kernel⟩
abbrev s_Bakery_bakes : Stmt := inClass (topS 18) 3
abbrev n_Bakery_bakes : List Str := ["self"]
abbrev p_Bakery_bakes : List Str := ["self"]
theorem sc_Bakery_bakes : FnScope n_Bakery_bakes p_Bakery_bakes (defScope s_Bakery_bakes) := ⟨rfl, rfl, rfl, by decide +kernel, rfl, by decide +kernel, by decide +kernel⟩
abbrev s_Bakery_life : Stmt := inClass (topS 18) 5
abbrev n_Bakery_life : List Str := ["self"]
abbrev p_Bakery_life : List Str := ["self"]
theorem sc_Bakery_life : FnScope n_Bakery_life p_Bakery_life (defScope s_Bakery_life) := ⟨rfl, rfl, rfl, by decide +kernel, rfl, by decide +kernel, by decide +kernel⟩
abbrev s_Bakery_stock : Stmt := inClass (topS 18) 10
abbrev n_Bakery_stock : List Str := ["self", "day"]
abbrev p_Bakery_stock : List Str := ["self", "day"]
theorem sc_Bakery_stock : FnScope n_Bakery_stock p_Bakery_stock (defScope s_Bakery_stock) := ⟨rfl, rfl, rfl, by decide +kernel, rfl, by decide +kernel, by decide +kernel⟩
abbrev s_Bakery_sold : Stmt := inClass (topS 18) 11
abbrev n_Bakery_sold : List Str := ["self", "day"]
abbrev p_Bakery_sold : List Str := ["self", "day"]
theorem sc_Bakery_sold : FnScope n_Bakery_sold p_Bakery_sold (defScope s_Bakery_sold) := ⟨rfl, rfl, rfl, by decide +kernel, rfl, by decide +kernel, by decide +kernel⟩
abbrev s_Bakery_thrown : Stmt := inClass (topS 18) 13
abbrev n_Bakery_thrown : List Str := ["self", "day"]
abbrev p_Bakery_thrown : List Str := ["self", "day"]
theorem sc_Bakery_thrown : FnScope n_Bakery_thrown p_Bakery_thrown (defScope s_Bakery_thrown) := ⟨rfl, rfl, rfl, by decide +kernel, rfl, by decide +kernel, by decide +kernel⟩
abbrev s_LifeObserver___init__ : Stmt := inClass (topS 20) 0
abbrev n_LifeObserver___init__ : List Str := ["self", "bakes", "demands", "life"]
abbrev p_LifeObserver___init__ : List Str := ["self", "bakes", "demands"]
theorem sc_LifeObserver___init__ : FnScope n_LifeObserver___init__ p_LifeObserver___init__ (defScope s_LifeObserver___init__) := ⟨rfl, rfl, rfl, by decide +kernel, rfl, by decide +kernel, by decide +kernel⟩
abbrev s_LifeObserver_possible_lives : Stmt := inClass (topS 20) 1
abbrev n_LifeObserver_possible_lives : List Str := ["self", "bakery"]
abbrev p_LifeObserver_possible_lives : List Str := ["self"]
theorem sc_LifeObserver_possible_lives : FnScope n_LifeObserver_possible_lives p_LifeObserver_possible_lives (defScope s_LifeObserver_possible_lives) := ⟨rfl, rfl, rfl, by decide +kernel, rfl, by decide +kernel, by decide +kernel⟩
abbrev s_LifeObserver_records : Stmt := inClass (topS 20) 2
abbrev n_LifeObserver_records : List Str := ["self"]
abbrev p_LifeObserver_records : List Str := ["self"]
theorem sc_LifeObserver_records : FnScope n_LifeObserver_records p_LifeObserver_records (defScope s_LifeObserver_records) := ⟨rfl, rfl, rfl, by decide +kernel, rfl, by decide +kernel, by decide +kernel⟩
abbrev s_LifeObserver_see_sold : Stmt := inClass (topS 20) 3
abbrev n_LifeObserver_see_sold : List Str := ["self", "day", "number", "bakery"]
abbrev p_LifeObserver_see_sold : List Str := ["self", "day", "number"]
theorem sc_LifeObserver_see_sold : FnScope n_LifeObserver_see_sold p_LifeObserver_see_sold (defScope s_LifeObserver_see_sold) := ⟨rfl, rfl, rfl, by decide +kernel, rfl, by decide +kernel, by decide +kernel⟩
abbrev s_LifeObserver_see_thrown : Stmt := inClass (topS 20) 4
abbrev n_LifeObserver_see_thrown : List Str := ["self", "day", "number", "bakery"]
abbrev p_LifeObserver_see_thrown : List Str := ["self", "day", "number"]
theorem sc_LifeObserver_see_thrown : FnScope n_LifeObserver_see_thrown p_LifeObserver_see_thrown (defScope s_LifeObserver_see_thrown) := ⟨rfl, rfl, rfl, by decide +kernel, rfl, by decide +kernel, by decide +kernel⟩
abbrev s_LifeObserver_see_stock : Stmt := inClass (topS 20) 5
abbrev n_LifeObserver_see_stock : List Str := ["self", "day", "number", "bakery"]
abbrev p_LifeObserver_see_stock : List Str := ["self", "day", "number"]
theorem sc_LifeObserver_see_stock : FnScope n_LifeObserver_see_stock p_LifeObserver_see_stock (defScope s_LifeObserver_see_stock) := ⟨rfl, rfl, rfl, by decide +kernel, rfl, by decide +kernel, by decide +kernel⟩
abbrev s_LifeObserver_telling_day : Stmt := inClass (topS 20) 6
abbrev n_LifeObserver_telling_day : List Str := ["self", "day", "amounts", "bakery"]
abbrev p_LifeObserver_telling_day : List Str := ["self"]
theorem sc_LifeObserver_telling_day : FnScope n_LifeObserver_telling_day p_LifeObserver_telling_day (defScope s_LifeObserver_telling_day) := ⟨rfl, rfl, rfl, by decide +kernel, rfl, by decide +kernel, by decide +kernel⟩
abbrev s_LifeObserver__accept : Stmt := inClass (topS 20) 7
abbrev n_LifeObserver__accept : List Str := ["self", "kind", "day", "number", "expected", "fitting", "bakery", "one"]
abbrev p_LifeObserver__accept : List Str := ["self", "kind", "day", "number", "expected"]
theorem sc_LifeObserver__accept : FnScope n_LifeObserver__accept p_LifeObserver__accept (defScope s_LifeObserver__accept) := ⟨rfl, rfl, rfl, by decide +kernel, rfl, by decide +kernel, by decide +kernel⟩
abbrev s__law_mix : Stmt := topS 22
abbrev n__law_mix : List Str := ["_law_script", "_law_seed", "_law_mixed", "_law_cell"]
abbrev p__law_mix : List Str := ["_law_script", "_law_seed"]
theorem sc__law_mix : FnScope n__law_mix p__law_mix (defScope s__law_mix) := ⟨rfl, rfl, rfl, by decide +kernel, rfl, by decide +kernel, by decide +kernel⟩
abbrev s__law_next : Stmt := topS 23
abbrev n__law_next : List Str := ["_law_h", "_law_limit", "_law_cell"]
abbrev p__law_next : List Str := ["_law_h", "_law_limit"]
theorem sc__law_next : FnScope n__law_next p__law_next (defScope s__law_next) := ⟨rfl, rfl, rfl, by decide +kernel, rfl, by decide +kernel, by decide +kernel⟩
abbrev s__law_alike : Stmt := topS 24
abbrev n__law_alike : List Str := ["_law_found", "_law_due", "_law_k"]
abbrev p__law_alike : List Str := ["_law_found", "_law_due"]
theorem sc__law_alike : FnScope n__law_alike p__law_alike (defScope s__law_alike) := ⟨rfl, rfl, rfl, by decide +kernel, rfl, by decide +kernel, by decide +kernel⟩
abbrev s__law_error : Stmt := topS 25
abbrev n__law_error : List Str := ["_law_call", "e", "_law_kinds", "_law_name"]
abbrev p__law_error : List Str := ["_law_call"]
theorem sc__law_error : FnScope n__law_error p__law_error (defScope s__law_error) := ⟨rfl, rfl, rfl, by decide +kernel, rfl, by decide +kernel, by decide +kernel⟩
abbrev s__law_amounts : Stmt := topS 26
abbrev n__law_amounts : List Str := ["_law_h", "_law_count", "_law_wide", "_law_k"]
abbrev p__law_amounts : List Str := ["_law_h", "_law_count", "_law_wide"]
theorem sc__law_amounts : FnScope n__law_amounts p__law_amounts (defScope s__law_amounts) := ⟨rfl, rfl, rfl, by decide +kernel, rfl, by decide +kernel, by decide +kernel⟩
abbrev s__law_parts : Stmt := topS 27
abbrev n__law_parts : List Str := ["_law_h", "_law_most", "_law_wide", "_law_count", "_law_bakes", "_law_demands", "_law_k", "_law_more"]
abbrev p__law_parts : List Str := ["_law_h", "_law_most", "_law_wide"]
theorem sc__law_parts : FnScope n__law_parts p__law_parts (defScope s__law_parts) := ⟨rfl, rfl, rfl, by decide +kernel, rfl, by decide +kernel, by decide +kernel⟩
abbrev s__law_number : Stmt := topS 28
abbrev n__law_number : List Str := ["_law_bakery", "_law_word", "_law_day"]
abbrev p__law_number : List Str := ["_law_bakery", "_law_word", "_law_day"]
theorem sc__law_number : FnScope n__law_number p__law_number (defScope s__law_number) := ⟨rfl, rfl, rfl, by decide +kernel, rfl, by decide +kernel, by decide +kernel⟩
abbrev s__law_seen : Stmt := topS 29
abbrev n__law_seen : List Str := ["_law_observer", "_law_word", "_law_day", "_law_number_here"]
abbrev p__law_seen : List Str := ["_law_observer", "_law_word", "_law_day", "_law_number_here"]
theorem sc__law_seen : FnScope n__law_seen p__law_seen (defScope s__law_seen) := ⟨rfl, rfl, rfl, by decide +kernel, rfl, by decide +kernel, by decide +kernel⟩
abbrev s__law_telling_right : Stmt := topS 30
abbrev n__law_telling_right : List Str := ["_law_observer", "_law_every", "_law_day", "_law_one", "_law_other"]
abbrev p__law_telling_right : List Str := ["_law_observer", "_law_every"]
theorem sc__law_telling_right : FnScope n__law_telling_right p__law_telling_right (defScope s__law_telling_right) := ⟨rfl, rfl, rfl, by decide +kernel, rfl, by decide +kernel, by decide +kernel⟩
abbrev s_law : Stmt := topS 31
abbrev n_law : List Str := ["_law_script", "_law_h", "_law_bakes", "_law_demands", "_law_life", "_law_every", "_law_records", "_law_true_one", "_law_time", "_law_left", "_law_error_here", "_law_day", "_law_number_here", "_law_observer", "_law_results", "_law_word", "_law_one"]
abbrev p_law : List Str := ["_law_script"]
theorem sc_law : FnScope n_law p_law (defScope s_law) := ⟨rfl, rfl, rfl, by decide +kernel, rfl, by decide +kernel, by decide +kernel⟩
structure Ad where
  c_Course : Addr
  c_Bakery : Addr
  c_LifeObserver : Addr
  mc_Course : Value
  mc_Bakery : Value
  mc_LifeObserver : Value
  pr_Bakery_bakes : Addr
  pr_Bakery_life : Addr
  pr_LifeObserver_possible_lives : Addr
  pr_LifeObserver_records : Addr
  t_MOST_LOAVES : Tok
  t_LAST_DAY : Tok
  f_InvalidBakery___init__ : Addr
  d_InvalidBakery___init__ : FuncData
  f_InvalidDays___init__ : Addr
  d_InvalidDays___init__ : FuncData
  f_check_number : Addr
  d_check_number : FuncData
  f_count_keepable : Addr
  d_count_keepable : FuncData
  f_Course___init__ : Addr
  d_Course___init__ : FuncData
  f_Course_stock_at : Addr
  d_Course_stock_at : FuncData
  f_Course_sales_on : Addr
  d_Course_sales_on : FuncData
  f_Course_find_settled : Addr
  d_Course_find_settled : FuncData
  f_Course_sum_settled_round : Addr
  d_Course_sum_settled_round : FuncData
  f_Course__play_round : Addr
  d_Course__play_round : FuncData
  f_Course__stocks_in : Addr
  d_Course__stocks_in : FuncData
  f_Course__misses_in : Addr
  d_Course__misses_in : FuncData
  f_Course__count_growing : Addr
  d_Course__count_growing : FuncData
  f_check_amounts : Addr
  d_check_amounts : FuncData
  f_check_life : Addr
  d_check_life : FuncData
  f_check_bakery : Addr
  d_check_bakery : FuncData
  f_Bakery___init__ : Addr
  d_Bakery___init__ : FuncData
  f_Bakery_bakes : Addr
  d_Bakery_bakes : FuncData
  f_Bakery_life : Addr
  d_Bakery_life : FuncData
  f_Bakery_stock : Addr
  d_Bakery_stock : FuncData
  f_Bakery_sold : Addr
  d_Bakery_sold : FuncData
  f_Bakery_thrown : Addr
  d_Bakery_thrown : FuncData
  f_LifeObserver___init__ : Addr
  d_LifeObserver___init__ : FuncData
  f_LifeObserver_possible_lives : Addr
  d_LifeObserver_possible_lives : FuncData
  f_LifeObserver_records : Addr
  d_LifeObserver_records : FuncData
  f_LifeObserver_see_sold : Addr
  d_LifeObserver_see_sold : FuncData
  f_LifeObserver_see_thrown : Addr
  d_LifeObserver_see_thrown : FuncData
  f_LifeObserver_see_stock : Addr
  d_LifeObserver_see_stock : FuncData
  f_LifeObserver_telling_day : Addr
  d_LifeObserver_telling_day : FuncData
  f_LifeObserver__accept : Addr
  d_LifeObserver__accept : FuncData
  f__law_mix : Addr
  d__law_mix : FuncData
  f__law_next : Addr
  d__law_next : FuncData
  f__law_alike : Addr
  d__law_alike : FuncData
  f__law_error : Addr
  d__law_error : FuncData
  f__law_amounts : Addr
  d__law_amounts : FuncData
  f__law_parts : Addr
  d__law_parts : FuncData
  f__law_number : Addr
  d__law_number : FuncData
  f__law_seen : Addr
  d__law_seen : FuncData
  f__law_telling_right : Addr
  d__law_telling_right : FuncData
  f_law : Addr
  d_law : FuncData
  k_law : Addr
  tb_law : Addr
  P : Program
  c_LoafError : Addr
  c_InvalidBakery : Addr
  c_InvalidNumber : Addr
  c_InvalidDays : Addr
  c_Contradiction : Addr
  k_InvalidBakery___init__ : Addr
  k_InvalidDays___init__ : Addr
  cc_InvalidBakery___init__ : Addr
  cc_InvalidDays___init__ : Addr
structure Txt (K : PySem.W.Frag) (mg : Str → Option Value) (Z : Ad) : Prop where
  cl_Course : Cls K Z.c_Course
  g_Course : mg "Course" = some (.ref Z.c_Course)
  mk_Course : Mk K Z.c_Course Z.f_Course___init__
  na_Course__bakes : NoAttr K Z.c_Course "_bakes"
  na_Course__demands : NoAttr K Z.c_Course "_demands"
  na_Course__keepable : NoAttr K Z.c_Course "_keepable"
  na_Course__gain : NoAttr K Z.c_Course "_gain"
  na_Course__first_end : NoAttr K Z.c_Course "_first_end"
  na_Course__full_end : NoAttr K Z.c_Course "_full_end"
  na_Course__first_misses : NoAttr K Z.c_Course "_first_misses"
  na_Course__later_misses : NoAttr K Z.c_Course "_later_misses"
  cl_Bakery : Cls K Z.c_Bakery
  g_Bakery : mg "Bakery" = some (.ref Z.c_Bakery)
  mk_Bakery : Mk K Z.c_Bakery Z.f_Bakery___init__
  na_Bakery__bakes : NoAttr K Z.c_Bakery "_bakes"
  na_Bakery__demands : NoAttr K Z.c_Bakery "_demands"
  na_Bakery__life : NoAttr K Z.c_Bakery "_life"
  na_Bakery_course : NoAttr K Z.c_Bakery "course"
  na_Bakery__settled_day : NoAttr K Z.c_Bakery "_settled_day"
  na_Bakery__long_run : NoAttr K Z.c_Bakery "_long_run"
  cv_Bakery_MAX_DAYS : ClX.CRead K Z.c_Bakery Z.mc_Bakery ∧ ∃ u, ClX.CVal K Z.c_Bakery Z.mc_Bakery "MAX_DAYS" (.int 24) u
  cv_Bakery_MAX_LIFE : ClX.CRead K Z.c_Bakery Z.mc_Bakery ∧ ∃ u, ClX.CVal K Z.c_Bakery Z.mc_Bakery "MAX_LIFE" (.int 30) u
  cl_LifeObserver : Cls K Z.c_LifeObserver
  g_LifeObserver : mg "LifeObserver" = some (.ref Z.c_LifeObserver)
  mk_LifeObserver : Mk K Z.c_LifeObserver Z.f_LifeObserver___init__
  na_LifeObserver__fitting : NoAttr K Z.c_LifeObserver "_fitting"
  na_LifeObserver__accepted : NoAttr K Z.c_LifeObserver "_accepted"
  g_MOST_LOAVES : mg "MOST_LOAVES" = some (.int 1000000000 Z.t_MOST_LOAVES)
  g_LAST_DAY : mg "LAST_DAY" = some (.int 1000000000000000000 Z.t_LAST_DAY)
  b_ValueError : mg "ValueError" = none
  b_bool : mg "bool" = none
  b_dict : mg "dict" = none
  b_divmod : mg "divmod" = none
  b_enumerate : mg "enumerate" = none
  b_int : mg "int" = none
  b_isinstance : mg "isinstance" = none
  b_len : mg "len" = none
  b_list : mg "list" = none
  b_max : mg "max" = none
  b_min : mg "min" = none
  b_range : mg "range" = none
  b_str : mg "str" = none
  b_sum : mg "sum" = none
  b_super : mg "super" = none
  b_tuple : mg "tuple" = none
  b_zip : mg "zip" = none
  g_LoafError : mg "LoafError" = some (.ref Z.c_LoafError)
  g_InvalidBakery : mg "InvalidBakery" = some (.ref Z.c_InvalidBakery)
  g_InvalidNumber : mg "InvalidNumber" = some (.ref Z.c_InvalidNumber)
  g_InvalidDays : mg "InvalidDays" = some (.ref Z.c_InvalidDays)
  g_Contradiction : mg "Contradiction" = some (.ref Z.c_Contradiction)
  xp_InvalidNumber : PySem.W.excIn K Z.c_InvalidNumber [.type "ValueError", .type "Exception", .type "BaseException", .type "object"] "ValueError.__new__" = true
  xq_InvalidNumber : PySem.W.keepIn K (.ref Z.c_InvalidNumber) = true
  xb_InvalidNumber : PySem.W.subIn K (.ref Z.c_InvalidNumber) (.type "BaseException") = some true
  xy_InvalidNumber : PySem.W.typeIn K (.ref Z.c_InvalidNumber) = some (.type "type")
  xI_InvalidNumber : ExI K Z.c_InvalidNumber
  xm_InvalidNumber : PySem.W.exmOne K (.ref Z.c_InvalidNumber) (.ref Z.c_LoafError) = some true
  xv_InvalidNumber : PySem.W.kitOne K (.ref Z.c_InvalidNumber) (.type "ValueError") = some true
  xk_InvalidNumber_InvalidBakery : PySem.W.kitOne K (.ref Z.c_InvalidNumber) (.ref Z.c_InvalidBakery) = some false
  xk_InvalidNumber_InvalidNumber : PySem.W.kitOne K (.ref Z.c_InvalidNumber) (.ref Z.c_InvalidNumber) = some true
  xk_InvalidNumber_InvalidDays : PySem.W.kitOne K (.ref Z.c_InvalidNumber) (.ref Z.c_InvalidDays) = some false
  xk_InvalidNumber_Contradiction : PySem.W.kitOne K (.ref Z.c_InvalidNumber) (.ref Z.c_Contradiction) = some false
  xp_Contradiction : PySem.W.excIn K Z.c_Contradiction [.type "ValueError", .type "Exception", .type "BaseException", .type "object"] "ValueError.__new__" = true
  xq_Contradiction : PySem.W.keepIn K (.ref Z.c_Contradiction) = true
  xb_Contradiction : PySem.W.subIn K (.ref Z.c_Contradiction) (.type "BaseException") = some true
  xy_Contradiction : PySem.W.typeIn K (.ref Z.c_Contradiction) = some (.type "type")
  xI_Contradiction : ExI K Z.c_Contradiction
  xm_Contradiction : PySem.W.exmOne K (.ref Z.c_Contradiction) (.ref Z.c_LoafError) = some true
  xv_Contradiction : PySem.W.kitOne K (.ref Z.c_Contradiction) (.type "ValueError") = some true
  xk_Contradiction_InvalidBakery : PySem.W.kitOne K (.ref Z.c_Contradiction) (.ref Z.c_InvalidBakery) = some false
  xk_Contradiction_InvalidNumber : PySem.W.kitOne K (.ref Z.c_Contradiction) (.ref Z.c_InvalidNumber) = some false
  xk_Contradiction_InvalidDays : PySem.W.kitOne K (.ref Z.c_Contradiction) (.ref Z.c_InvalidDays) = some false
  xk_Contradiction_Contradiction : PySem.W.kitOne K (.ref Z.c_Contradiction) (.ref Z.c_Contradiction) = some true
  ox_InvalidBakery : OexC K Z.c_InvalidBakery
  xi_InvalidBakery : PySem.W.findIn K (.ref Z.c_InvalidBakery) "__init__" = some (some (.ref Z.f_InvalidBakery___init__))
  xt_InvalidBakery : PySem.W.typeIn K (.ref Z.f_InvalidBakery___init__) = some (.type "function")
  xs_InvalidBakery : SupF Z.P K "InvalidBakery.__init__" s_InvalidBakery___init__ Z.f_InvalidBakery___init__ Z.d_InvalidBakery___init__ Z.k_InvalidBakery___init__ Z.cc_InvalidBakery___init__ Z.c_InvalidBakery
  xI_InvalidBakery : ExI K Z.c_InvalidBakery
  xm_InvalidBakery : PySem.W.exmOne K (.ref Z.c_InvalidBakery) (.ref Z.c_LoafError) = some true
  xv_InvalidBakery : PySem.W.kitOne K (.ref Z.c_InvalidBakery) (.type "ValueError") = some true
  xk_InvalidBakery_InvalidBakery : PySem.W.kitOne K (.ref Z.c_InvalidBakery) (.ref Z.c_InvalidBakery) = some true
  xk_InvalidBakery_InvalidNumber : PySem.W.kitOne K (.ref Z.c_InvalidBakery) (.ref Z.c_InvalidNumber) = some false
  xk_InvalidBakery_InvalidDays : PySem.W.kitOne K (.ref Z.c_InvalidBakery) (.ref Z.c_InvalidDays) = some false
  xk_InvalidBakery_Contradiction : PySem.W.kitOne K (.ref Z.c_InvalidBakery) (.ref Z.c_Contradiction) = some false
  na_InvalidBakery_part : PySem.W.findIn K (.ref Z.c_InvalidBakery) "part" = some none
  na_InvalidBakery_index : PySem.W.findIn K (.ref Z.c_InvalidBakery) "index" = some none
  b_InvalidBakery___init__ : Binds K Z.d_InvalidBakery___init__ p_InvalidBakery___init__ []
  ox_InvalidDays : OexC K Z.c_InvalidDays
  xi_InvalidDays : PySem.W.findIn K (.ref Z.c_InvalidDays) "__init__" = some (some (.ref Z.f_InvalidDays___init__))
  xt_InvalidDays : PySem.W.typeIn K (.ref Z.f_InvalidDays___init__) = some (.type "function")
  xs_InvalidDays : SupF Z.P K "InvalidDays.__init__" s_InvalidDays___init__ Z.f_InvalidDays___init__ Z.d_InvalidDays___init__ Z.k_InvalidDays___init__ Z.cc_InvalidDays___init__ Z.c_InvalidDays
  xI_InvalidDays : ExI K Z.c_InvalidDays
  xm_InvalidDays : PySem.W.exmOne K (.ref Z.c_InvalidDays) (.ref Z.c_LoafError) = some true
  xv_InvalidDays : PySem.W.kitOne K (.ref Z.c_InvalidDays) (.type "ValueError") = some true
  xk_InvalidDays_InvalidBakery : PySem.W.kitOne K (.ref Z.c_InvalidDays) (.ref Z.c_InvalidBakery) = some false
  xk_InvalidDays_InvalidNumber : PySem.W.kitOne K (.ref Z.c_InvalidDays) (.ref Z.c_InvalidNumber) = some false
  xk_InvalidDays_InvalidDays : PySem.W.kitOne K (.ref Z.c_InvalidDays) (.ref Z.c_InvalidDays) = some true
  xk_InvalidDays_Contradiction : PySem.W.kitOne K (.ref Z.c_InvalidDays) (.ref Z.c_Contradiction) = some false
  na_InvalidDays_index : PySem.W.findIn K (.ref Z.c_InvalidDays) "index" = some none
  b_InvalidDays___init__ : Binds K Z.d_InvalidDays___init__ p_InvalidDays___init__ []
  F_check_number : Fun K "check_number" "check_number" s_check_number Z.f_check_number Z.d_check_number
  b_check_number : Binds K Z.d_check_number p_check_number []
  g_check_number : mg "check_number" = some (.ref Z.f_check_number)
  F_count_keepable : Fun K "count_keepable" "count_keepable" s_count_keepable Z.f_count_keepable Z.d_count_keepable
  b_count_keepable : Binds K Z.d_count_keepable p_count_keepable []
  g_count_keepable : mg "count_keepable" = some (.ref Z.f_count_keepable)
  F_Course___init__ : Fun K "__init__" "Course.__init__" s_Course___init__ Z.f_Course___init__ Z.d_Course___init__
  b_Course___init__ : Binds K Z.d_Course___init__ p_Course___init__ []
  F_Course_stock_at : Fun K "stock_at" "Course.stock_at" s_Course_stock_at Z.f_Course_stock_at Z.d_Course_stock_at
  b_Course_stock_at : Binds K Z.d_Course_stock_at p_Course_stock_at []
  m_Course_stock_at : Meth K Z.c_Course "stock_at" Z.f_Course_stock_at
  F_Course_sales_on : Fun K "sales_on" "Course.sales_on" s_Course_sales_on Z.f_Course_sales_on Z.d_Course_sales_on
  b_Course_sales_on : Binds K Z.d_Course_sales_on p_Course_sales_on []
  m_Course_sales_on : Meth K Z.c_Course "sales_on" Z.f_Course_sales_on
  F_Course_find_settled : Fun K "find_settled" "Course.find_settled" s_Course_find_settled Z.f_Course_find_settled Z.d_Course_find_settled
  b_Course_find_settled : Binds K Z.d_Course_find_settled p_Course_find_settled []
  m_Course_find_settled : Meth K Z.c_Course "find_settled" Z.f_Course_find_settled
  F_Course_sum_settled_round : Fun K "sum_settled_round" "Course.sum_settled_round" s_Course_sum_settled_round Z.f_Course_sum_settled_round Z.d_Course_sum_settled_round
  b_Course_sum_settled_round : Binds K Z.d_Course_sum_settled_round p_Course_sum_settled_round []
  m_Course_sum_settled_round : Meth K Z.c_Course "sum_settled_round" Z.f_Course_sum_settled_round
  F_Course__play_round : Fun K "_play_round" "Course._play_round" s_Course__play_round Z.f_Course__play_round Z.d_Course__play_round
  b_Course__play_round : Binds K Z.d_Course__play_round p_Course__play_round []
  m_Course__play_round : Meth K Z.c_Course "_play_round" Z.f_Course__play_round
  F_Course__stocks_in : Fun K "_stocks_in" "Course._stocks_in" s_Course__stocks_in Z.f_Course__stocks_in Z.d_Course__stocks_in
  b_Course__stocks_in : Binds K Z.d_Course__stocks_in p_Course__stocks_in []
  m_Course__stocks_in : Meth K Z.c_Course "_stocks_in" Z.f_Course__stocks_in
  F_Course__misses_in : Fun K "_misses_in" "Course._misses_in" s_Course__misses_in Z.f_Course__misses_in Z.d_Course__misses_in
  b_Course__misses_in : Binds K Z.d_Course__misses_in p_Course__misses_in []
  m_Course__misses_in : Meth K Z.c_Course "_misses_in" Z.f_Course__misses_in
  F_Course__count_growing : Fun K "_count_growing" "Course._count_growing" s_Course__count_growing Z.f_Course__count_growing Z.d_Course__count_growing
  b_Course__count_growing : Binds K Z.d_Course__count_growing p_Course__count_growing []
  m_Course__count_growing : Meth K Z.c_Course "_count_growing" Z.f_Course__count_growing
  F_check_amounts : Fun K "check_amounts" "check_amounts" s_check_amounts Z.f_check_amounts Z.d_check_amounts
  b_check_amounts : Binds K Z.d_check_amounts p_check_amounts []
  g_check_amounts : mg "check_amounts" = some (.ref Z.f_check_amounts)
  F_check_life : Fun K "check_life" "check_life" s_check_life Z.f_check_life Z.d_check_life
  b_check_life : Binds K Z.d_check_life p_check_life []
  g_check_life : mg "check_life" = some (.ref Z.f_check_life)
  F_check_bakery : Fun K "check_bakery" "check_bakery" s_check_bakery Z.f_check_bakery Z.d_check_bakery
  b_check_bakery : Binds K Z.d_check_bakery p_check_bakery []
  g_check_bakery : mg "check_bakery" = some (.ref Z.f_check_bakery)
  F_Bakery___init__ : Fun K "__init__" "Bakery.__init__" s_Bakery___init__ Z.f_Bakery___init__ Z.d_Bakery___init__
  b_Bakery___init__ : Binds K Z.d_Bakery___init__ p_Bakery___init__ []
  F_Bakery_bakes : Fun K "bakes" "Bakery.bakes" s_Bakery_bakes Z.f_Bakery_bakes Z.d_Bakery_bakes
  b_Bakery_bakes : Binds K Z.d_Bakery_bakes p_Bakery_bakes []
  pp_Bakery_bakes : PropOf K Z.c_Bakery "bakes" Z.pr_Bakery_bakes Z.f_Bakery_bakes
  F_Bakery_life : Fun K "life" "Bakery.life" s_Bakery_life Z.f_Bakery_life Z.d_Bakery_life
  b_Bakery_life : Binds K Z.d_Bakery_life p_Bakery_life []
  pp_Bakery_life : PropOf K Z.c_Bakery "life" Z.pr_Bakery_life Z.f_Bakery_life
  F_Bakery_stock : Fun K "stock" "Bakery.stock" s_Bakery_stock Z.f_Bakery_stock Z.d_Bakery_stock
  b_Bakery_stock : Binds K Z.d_Bakery_stock p_Bakery_stock []
  m_Bakery_stock : Meth K Z.c_Bakery "stock" Z.f_Bakery_stock
  F_Bakery_sold : Fun K "sold" "Bakery.sold" s_Bakery_sold Z.f_Bakery_sold Z.d_Bakery_sold
  b_Bakery_sold : Binds K Z.d_Bakery_sold p_Bakery_sold []
  m_Bakery_sold : Meth K Z.c_Bakery "sold" Z.f_Bakery_sold
  F_Bakery_thrown : Fun K "thrown" "Bakery.thrown" s_Bakery_thrown Z.f_Bakery_thrown Z.d_Bakery_thrown
  b_Bakery_thrown : Binds K Z.d_Bakery_thrown p_Bakery_thrown []
  m_Bakery_thrown : Meth K Z.c_Bakery "thrown" Z.f_Bakery_thrown
  F_LifeObserver___init__ : Fun K "__init__" "LifeObserver.__init__" s_LifeObserver___init__ Z.f_LifeObserver___init__ Z.d_LifeObserver___init__
  b_LifeObserver___init__ : Binds K Z.d_LifeObserver___init__ p_LifeObserver___init__ []
  F_LifeObserver_possible_lives : Fun K "possible_lives" "LifeObserver.possible_lives" s_LifeObserver_possible_lives Z.f_LifeObserver_possible_lives Z.d_LifeObserver_possible_lives
  b_LifeObserver_possible_lives : Binds K Z.d_LifeObserver_possible_lives p_LifeObserver_possible_lives []
  pp_LifeObserver_possible_lives : PropOf K Z.c_LifeObserver "possible_lives" Z.pr_LifeObserver_possible_lives Z.f_LifeObserver_possible_lives
  F_LifeObserver_records : Fun K "records" "LifeObserver.records" s_LifeObserver_records Z.f_LifeObserver_records Z.d_LifeObserver_records
  b_LifeObserver_records : Binds K Z.d_LifeObserver_records p_LifeObserver_records []
  pp_LifeObserver_records : PropOf K Z.c_LifeObserver "records" Z.pr_LifeObserver_records Z.f_LifeObserver_records
  F_LifeObserver_see_sold : Fun K "see_sold" "LifeObserver.see_sold" s_LifeObserver_see_sold Z.f_LifeObserver_see_sold Z.d_LifeObserver_see_sold
  b_LifeObserver_see_sold : Binds K Z.d_LifeObserver_see_sold p_LifeObserver_see_sold []
  m_LifeObserver_see_sold : Meth K Z.c_LifeObserver "see_sold" Z.f_LifeObserver_see_sold
  F_LifeObserver_see_thrown : Fun K "see_thrown" "LifeObserver.see_thrown" s_LifeObserver_see_thrown Z.f_LifeObserver_see_thrown Z.d_LifeObserver_see_thrown
  b_LifeObserver_see_thrown : Binds K Z.d_LifeObserver_see_thrown p_LifeObserver_see_thrown []
  m_LifeObserver_see_thrown : Meth K Z.c_LifeObserver "see_thrown" Z.f_LifeObserver_see_thrown
  F_LifeObserver_see_stock : Fun K "see_stock" "LifeObserver.see_stock" s_LifeObserver_see_stock Z.f_LifeObserver_see_stock Z.d_LifeObserver_see_stock
  b_LifeObserver_see_stock : Binds K Z.d_LifeObserver_see_stock p_LifeObserver_see_stock []
  m_LifeObserver_see_stock : Meth K Z.c_LifeObserver "see_stock" Z.f_LifeObserver_see_stock
  F_LifeObserver_telling_day : Fun K "telling_day" "LifeObserver.telling_day" s_LifeObserver_telling_day Z.f_LifeObserver_telling_day Z.d_LifeObserver_telling_day
  b_LifeObserver_telling_day : Binds K Z.d_LifeObserver_telling_day p_LifeObserver_telling_day []
  m_LifeObserver_telling_day : Meth K Z.c_LifeObserver "telling_day" Z.f_LifeObserver_telling_day
  F_LifeObserver__accept : Fun K "_accept" "LifeObserver._accept" s_LifeObserver__accept Z.f_LifeObserver__accept Z.d_LifeObserver__accept
  b_LifeObserver__accept : Binds K Z.d_LifeObserver__accept p_LifeObserver__accept []
  m_LifeObserver__accept : Meth K Z.c_LifeObserver "_accept" Z.f_LifeObserver__accept
  F__law_mix : Fun K "_law_mix" "_law_mix" s__law_mix Z.f__law_mix Z.d__law_mix
  b__law_mix : Binds K Z.d__law_mix p__law_mix []
  g__law_mix : mg "_law_mix" = some (.ref Z.f__law_mix)
  F__law_next : Fun K "_law_next" "_law_next" s__law_next Z.f__law_next Z.d__law_next
  b__law_next : Binds K Z.d__law_next p__law_next []
  g__law_next : mg "_law_next" = some (.ref Z.f__law_next)
  F__law_alike : Fun K "_law_alike" "_law_alike" s__law_alike Z.f__law_alike Z.d__law_alike
  b__law_alike : Binds K Z.d__law_alike p__law_alike []
  g__law_alike : mg "_law_alike" = some (.ref Z.f__law_alike)
  F__law_error : Fun K "_law_error" "_law_error" s__law_error Z.f__law_error Z.d__law_error
  b__law_error : Binds K Z.d__law_error p__law_error []
  g__law_error : mg "_law_error" = some (.ref Z.f__law_error)
  F__law_amounts : Fun K "_law_amounts" "_law_amounts" s__law_amounts Z.f__law_amounts Z.d__law_amounts
  b__law_amounts : Binds K Z.d__law_amounts p__law_amounts []
  g__law_amounts : mg "_law_amounts" = some (.ref Z.f__law_amounts)
  F__law_parts : Fun K "_law_parts" "_law_parts" s__law_parts Z.f__law_parts Z.d__law_parts
  b__law_parts : Binds K Z.d__law_parts p__law_parts []
  g__law_parts : mg "_law_parts" = some (.ref Z.f__law_parts)
  F__law_number : Fun K "_law_number" "_law_number" s__law_number Z.f__law_number Z.d__law_number
  b__law_number : Binds K Z.d__law_number p__law_number []
  g__law_number : mg "_law_number" = some (.ref Z.f__law_number)
  F__law_seen : Fun K "_law_seen" "_law_seen" s__law_seen Z.f__law_seen Z.d__law_seen
  b__law_seen : Binds K Z.d__law_seen p__law_seen []
  g__law_seen : mg "_law_seen" = some (.ref Z.f__law_seen)
  F__law_telling_right : Fun K "_law_telling_right" "_law_telling_right" s__law_telling_right Z.f__law_telling_right Z.d__law_telling_right
  b__law_telling_right : Binds K Z.d__law_telling_right p__law_telling_right []
  g__law_telling_right : mg "_law_telling_right" = some (.ref Z.f__law_telling_right)
  F_law : Fun K "law" "law" s_law Z.f_law Z.d_law
  b_law : Binds K Z.d_law p_law []
  FC_law : FunC K "law" "law" s_law Z.f_law Z.d_law Z.k_law
  g_law : mg "law" = some (.ref Z.f_law)
end Sw
namespace Sw
open PySem PySem.Spec PyProof.Rows L2 Evl
/-! ### the mirror: what the package computes -/
def keepAt (bs : List Int) (life : Int) (i : Nat) : Int := ((List.range (life - 1).toNat).map fun (age : Nat) => bs.getD ((((i : Int) - (age : Int)) % (bs.length : Int)).toNat) 0).sum
def keepL (bs : List Int) (life : Int) : List Int := (List.range bs.length).map (keepAt bs life)
def sumRep (am : List Int) (days : Int) : Int := days / (am.length : Int) * am.sum + (am.take (days % (am.length : Int)).toNat).sum
def stp (s b d k : Int) : Int := min (max 0 (s + b - d)) k
def stkAt (bs ds ks : List Int) (s : Int) : Nat → Int
  | 0 => s
  | i + 1 => stp (stkAt bs ds ks s i) (bs.getD i 0) (ds.getD i 0) (ks.getD i 0)
def stkL (bs ds ks : List Int) (s : Int) : List Int := (List.range (bs.length + 1)).map (stkAt bs ds ks s)
/-! ### an instance's fields, for the walk -/
/-- the instance at a has the field, and its class lets it be read -/
structure FlK (K : PySem.W.Frag) (H : Hp) (a C : Addr) (f : Str) (v : V) : Prop where
  fl : Fl H a C f v
  cl : Cls K C
  na : NoAttr K C f
section
variable {K : PySem.W.Frag} {σ : L2.St} {H H' : Hp} {ta tb te tx : TE} {x y z v : V} {a C dx : Addr} {fs : List (Str × V)} {f m : Str}
theorem FlK.mono (e : Ex H H') (h : FlK K H a C f v) : FlK K H' a C f v := ⟨h.fl.mono e, h.cl, h.na⟩
theorem ev_fldK (h : Ev ta σ H (.ref a)) (hf : FlK K H a C f v) : Ev (tFld K ta f) σ H v := ev_fld h hf.fl hf.cl hf.na
theorem atI_mapI {ns : List Int} {i : Int} (h0 : 0 ≤ i) (h1 : i < ns.length) : atI (ns.map V.int) i = some (.int (ns.getD i.toNat 0)) := by
  rw [atI_at (d := V.int 0) h0 (by rw [List.length_map]; exact h1)]
  simp [List.getD]
theorem rng_map {n : Nat} (f : Nat → Int) : (List.range n).map (fun i => V.int (f i)) = ((List.range n).map f).map V.int := by
  rw [List.map_map]; rfl
end
theorem wide_ok {i j : Int} (h : j.natAbs < 2 ^ 60) : CMul i j := .inr (by omega)
local macro_rules | `(tactic| walk_at "ev") => `(tactic| first
  | exact ev_c
  | exact ev_var rfl
  | ((with_reducible show Ev (tCB rMax2 _) _ _ _); exact ev_maxi (by walk_at "ev") (by walk_at "ev"))
  | ((with_reducible show Ev (tCB rMn _) _ _ _); exact ev_min2 (by walk_at "ev") (by walk_at "ev"))
  | ((with_reducible show Ev (tUn _ _) _ _ _); exact ev_un (by walk_at "ev") ru_neg)
  | ((with_reducible show Ev (tFld _ _ _) _ _ _); exact ev_fldK (by walk_at "ev") (by assumption))
  | ((with_reducible show Ev (tOp (rI0 _) _ _) _ _ _); exact ev_op (by walk_at "ev") (by walk_at "ev") rv_I0)
  | ((with_reducible show Ev (tOp rEq _ _) _ _ _); exact ev_op (by walk_at "ev") (by walk_at "ev") (rv_eq rfl))
  | ((with_reducible show Ev (tOp rNe _ _) _ _ _); exact ev_op (by walk_at "ev") (by walk_at "ev") (rv_ne rfl)))

variable {P : Program} {w : World} {K : PySem.W.Frag} {mg : Str → Option Value} {base : Heap} {Z : Ad}
def sp_count_keepable (K : PySem.W.Frag) : Sp := fun vs H Q _ => ∃ (a : Addr) (bs : List Int) (life : Int), vs = [.ref a, .int life] ∧ SqT K H a (bs.map V.int) ∧ 0 < bs.length ∧ bs.length ≤ 24 ∧ 1 ≤ life ∧ life ≤ 30 ∧
  RetL ((keepL bs life).map V.int) H Q
theorem ok_count_keepable (T : Txt K mg Z) : FnOk P w K mg base CX0 1 Z.f_count_keepable Z.d_count_keepable p_count_keepable (sp_count_keepable K) := by
  refine T.F_count_keepable.ok sc_count_keepable (fun vs H Q E h => ?_) (fun cdv Ar outer s H vs Q E hr h => ?_)
  · obtain ⟨a, bs, life, rfl, _⟩ := h
    rfl
  · obtain ⟨a, bs, life, rfl, hS, h0, h1, h2, h3, k⟩ := h
    refine ⟨_, (pss_cons (ps_set (i := 2) sc_count_keepable.nd rfl (Or.inr rfl) (pe_callB (r := rLenS K) (call_len_seq) (by rfl) T.b_len boot_len (pa_cons (pv 0) pa_nil)))
      (pss_one (ps_ret (pe_lc (own := [("at", 3)]) rfl sc_count_keepable.nd (pi_range1 (by rfl) T.b_range (pa_cons (pv 2) pa_nil)) (blkOk_by (own := [("at", 3)]) (N := n_count_keepable) (sc := defScope s_count_keepable) (scope := { kind := PySem.ScopeKind.function, names := [ (PySem.Str.ofString ".0", PySem.NameKind.local), (PySem.Str.ofString "at", PySem.NameKind.cell), (PySem.Str.ofString "sum", PySem.NameKind.globalImplicit), (PySem.Str.ofString "range", PySem.NameKind.globalImplicit), (PySem.Str.ofString "bakes", PySem.NameKind.free), (PySem.Str.ofString "length", PySem.NameKind.free), (PySem.Str.ofString "life", PySem.NameKind.free)], isGenerator := false, isCoroutine := false, more := [] : PySem.Scope }) (by decide +kernel)) (fun _ _ _ _ _ => (pg_name (i := 3) sc_count_keepable.nd rfl (Or.inr rfl))) (fun _ _ _ _ _ => pts_nil) (fun _ _ _ _ _ => (pe_callB (r := rSum K) (cr_sum rfl) (by rfl) T.b_sum boot_sum (pa_cons (pe_lc (own := [("age", 4)]) rfl sc_count_keepable.nd (pi_range1 (by rfl) T.b_range (pa_cons (pe_op op_sub (pv 1) pe_int) pa_nil)) (blkOk_by (own := [("age", 4)]) (N := n_count_keepable) (sc := { kind := PySem.ScopeKind.function, names := [ (PySem.Str.ofString ".0", PySem.NameKind.local), (PySem.Str.ofString "at", PySem.NameKind.cell), (PySem.Str.ofString "sum", PySem.NameKind.globalImplicit), (PySem.Str.ofString "range", PySem.NameKind.globalImplicit), (PySem.Str.ofString "bakes", PySem.NameKind.cell), (PySem.Str.ofString "length", PySem.NameKind.cell), (PySem.Str.ofString "life", PySem.NameKind.cell)], isGenerator := false, isCoroutine := false, more := [] : PySem.Scope }) (scope := { kind := PySem.ScopeKind.function, names := [ (PySem.Str.ofString ".0", PySem.NameKind.local), (PySem.Str.ofString "age", PySem.NameKind.local), (PySem.Str.ofString "at", PySem.NameKind.free), (PySem.Str.ofString "bakes", PySem.NameKind.free), (PySem.Str.ofString "length", PySem.NameKind.free)], isGenerator := false, isCoroutine := false, more := [] : PySem.Scope }) (by decide +kernel)) (fun _ _ _ _ _ => (pg_name (i := 4) sc_count_keepable.nd rfl (Or.inl rfl))) (fun _ _ _ _ _ => pts_nil) (fun _ _ _ _ _ => (pe_ix (r := rIxT K) ix_tup (pv 0) (pe_op op_mod (pe_op op_sub (pv 3) (pv 4)) (pv 2)) (fun _ _ => rfl)))) pa_nil))))))), ?_⟩
    refine q_asg (ev_lenT (ev_var rfl) hS) fun H1 e1 => ?_
    have hS1 := ex_t e1 hS
    have hl : ((bs.map V.int).length : Int) = (bs.length : Int) := by rw [List.length_map]
    rw [hl]
    refine s_retL (xs := (keepL bs life).map V.int) ?_ fun p H2 hp e2 h2 => k p H2 (fresh_back e1 hp) (e1.trans e2) h2
    unfold keepL
    rw [← rng_map]
    refine el_lcR (n := (bs.length : Int)) (fun i => V.int (keepAt bs life i)) (ea_cons (ev_var rfl) ea_nil) ⟨by omega, by omega⟩ (fun _ => rfl) fun i H3 e3 hi => ?_
    unfold keepAt
    refine ev_sumN ?_
    rw [← rng_map]
    refine el_lcR (n := life - 1) _ (ea_cons (by walk_at "ev") ea_nil) ⟨by omega, by omega⟩ (fun _ => rfl) fun j H4 e4 hj => ?_
    have hm0 : 0 ≤ ((i : Int) - (j : Int)) % (bs.length : Int) := Int.emod_nonneg _ (by omega)
    have hm1 : ((i : Int) - (j : Int)) % (bs.length : Int) < (bs.length : Int) := Int.emod_lt_of_pos _ (by omega)
    exact ev_ixT (ev_var rfl) (ex_t (e3.trans e4) hS1) (ev_op (by walk_at "ev") (by walk_at "ev") (rv_I (by show (0 : Int) < _; omega))) (atI_mapI hm0 hm1)
def sp_sum_repeated (K : PySem.W.Frag) : Sp := fun vs H Q _ => ∃ (a : Addr) (am : List Int) (days : Int), vs = [.ref a, .int days] ∧ (SqT K H a (am.map V.int) ∨ SqL K H a (am.map V.int)) ∧ 0 < am.length ∧ am.length ≤ 24 ∧ am.sum.natAbs ≤ 2 ^ 40 ∧
  RetV (.int (sumRep am days)) H Q
end Sw
namespace Sw
open PySem PySem.Spec PyProof.Rows L2 Evl
local macro_rules | `(tactic| walk_at "ev") => `(tactic| first
  | exact ev_c
  | exact ev_var rfl
  | ((with_reducible show Ev (tCB rMax2 _) _ _ _); exact ev_maxi (by walk_at "ev") (by walk_at "ev"))
  | ((with_reducible show Ev (tCB rMn _) _ _ _); exact ev_min2 (by walk_at "ev") (by walk_at "ev"))
  | ((with_reducible show Ev (tUn _ _) _ _ _); exact ev_un (by walk_at "ev") ru_neg)
  | ((with_reducible show Ev (tFld _ _ _) _ _ _); exact ev_fldK (by walk_at "ev") (by assumption))
  | ((with_reducible show Ev (tOp (rI0 _) _ _) _ _ _); exact ev_op (by walk_at "ev") (by walk_at "ev") rv_I0)
  | ((with_reducible show Ev (tOp rEq _ _) _ _ _); exact ev_op (by walk_at "ev") (by walk_at "ev") (rv_eq rfl))
  | ((with_reducible show Ev (tOp rNe _ _) _ _ _); exact ev_op (by walk_at "ev") (by walk_at "ev") (rv_ne rfl)))

/-! ### the course: what its object holds -/
def start1 (gain first full : Int) (r : Int) : Int := if r = 0 then 0 else min full (first + (r - 1) * gain)
def missL (ds bs st : List Int) : List Int := (List.range ds.length).map fun i => max 0 (ds.getD i 0 - st.getD i 0 - bs.getD i 0)
def growing (gain first full : Int) : Int := if gain = 0 then 0 else -((first - full) / gain)
/-- bounds of what a bakery is made of -/
structure Good (bs ds : List Int) : Prop where
  n0 : 0 < bs.length
  n1 : bs.length ≤ 24
  ld : ds.length = bs.length
  b0 : ∀ x ∈ bs, 0 ≤ x ∧ x ≤ 1000000000
  d0 : ∀ x ∈ ds, 0 ≤ x ∧ x ≤ 1000000000
structure PR (K : PySem.W.Frag) (Z : Ad) (H : Hp) (c : Addr) (bs ds ks : List Int) (tb td tk : Addr) : Prop where
  fb : FlK K H c Z.c_Course "_bakes" (.ref tb)
  hb : SqT K H tb (bs.map V.int)
  fd : FlK K H c Z.c_Course "_demands" (.ref td)
  hd : SqT K H td (ds.map V.int)
  fk : FlK K H c Z.c_Course "_keepable" (.ref tk)
  hk : SqL K H tk (ks.map V.int)
  nf : NoF H c Z.c_Course "_play_round"
  gd : Good bs ds
  kl : ks.length = bs.length
structure SR (K : PySem.W.Frag) (Z : Ad) (H : Hp) (c : Addr) (bs ds ks : List Int) (tb td tk : Addr) (gain first full : Int) : Prop where
  pr : PR K Z H c bs ds ks tb td tk
  fg : FlK K H c Z.c_Course "_gain" (.int gain)
  ff : FlK K H c Z.c_Course "_first_end" (.int first)
  fu : FlK K H c Z.c_Course "_full_end" (.int full)
  nf : NoF H c Z.c_Course "_stocks_in"
  gb : gain.natAbs < 2 ^ 60
theorem PR.mono {K : PySem.W.Frag} {Z : Ad} {H H' : Hp} {c : Addr} {bs ds ks : List Int} {tb td tk : Addr} (e : Ex H H') (h : PR K Z H c bs ds ks tb td tk) : PR K Z H' c bs ds ks tb td tk :=
  ⟨h.fb.mono e, ex_t e h.hb, h.fd.mono e, ex_t e h.hd, h.fk.mono e, ex_l e h.hk, h.nf.mono e, h.gd, h.kl⟩
theorem SR.mono {K : PySem.W.Frag} {Z : Ad} {H H' : Hp} {c : Addr} {bs ds ks : List Int} {tb td tk : Addr} {gain first full : Int} (e : Ex H H') (h : SR K Z H c bs ds ks tb td tk gain first full) : SR K Z H' c bs ds ks tb td tk gain first full :=
  ⟨h.pr.mono e, h.fg.mono e, h.ff.mono e, h.fu.mono e, h.nf.mono e, h.gb⟩
theorem stkL_get {bs ds ks : List Int} {s : Int} {i : Nat} (h : i ≤ bs.length) : (stkL bs ds ks s).getD i 0 = stkAt bs ds ks s i := by
  unfold stkL
  simp [List.getD, List.getElem?_map, List.getElem?_range (show i < bs.length + 1 by omega)]
theorem stkL_len {bs ds ks : List Int} {s : Int} : (stkL bs ds ks s).length = bs.length + 1 := by simp [stkL]
theorem atI_last {α : Type} {xs : List α} {x : α} : atI (xs ++ [x]) (-1) = some x := by
  have e : ixN (xs ++ [x]).length (-1) = some xs.length := by
    unfold ixN
    rw [List.length_append, List.length_singleton]
    rw [if_neg (by omega), if_pos (by omega)]
    congr 1
    omega
  unfold atI
  rw [e]
  simp
theorem at_map {ns : List Int} {i : Nat} {x : V} (h : (ns.map V.int)[i]? = some x) : x = .int (ns.getD i 0) ∧ i < ns.length := by
  rw [List.getElem?_map] at h
  cases e : ns[i]? with
  | none => rw [e] at h; cases h
  | some z =>
    rw [e] at h
    have hi := (List.getElem?_eq_some_iff.mp e).1
    refine ⟨?_, hi⟩
    simp [List.getD, e] at h ⊢
    exact h.symm
variable {P : Program} {w : World} {K : PySem.W.Frag} {mg : Str → Option Value} {base : Heap} {Z : Ad}
/-! ### _play_round -/
def sp_play (K : PySem.W.Frag) (Z : Ad) : Sp := fun vs H Q _ => ∃ (c : Addr) (bs ds ks : List Int) (tb td tk : Addr) (s : Int), vs = [.ref c, .int s] ∧ PR K Z H c bs ds ks tb td tk ∧ RetL ((stkL bs ds ks s).map V.int) H Q
theorem ok_Course__play_round (T : Txt K mg Z) : FnOk P w K mg base CX0 1 Z.f_Course__play_round Z.d_Course__play_round p_Course__play_round (sp_play K Z) := by
  refine T.F_Course__play_round.ok sc_Course__play_round (fun vs H Q E h => ?_) (fun cdv Ar outer s H vs Q E hr h => ?_)
  · obtain ⟨c, bs, ds, ks, tb, td, tk, s, rfl, _⟩ := h
    rfl
  · obtain ⟨c, bs, ds, ks, tb, td, tk, s, rfl, hP, k⟩ := h
    have fb := hP.fb
    have fd := hP.fd
    have fk := hP.fk
    have hn := hP.gd.n1
    refine ⟨_, (pss_cons (ps_set (i := 2) sc_Course__play_round.nd rfl (Or.inl rfl) (pe_lst (pa_cons (pv 1) pa_nil)))
      (pss_cons (ps_for PassesOwn.never rfl (pi_zip3 (by rfl) T.b_zip (pa_cons (pe_fldK K rfl (pv 0) rfl) (pa_cons (pe_fldK K rfl (pv 0) rfl) (pa_cons (pe_fldK K rfl (pv 0) rfl) pa_nil)))) (by exact (pg_tupK K (n := 3) rfl rfl (pgs_cons (pg_name (i := 3) sc_Course__play_round.nd rfl (Or.inl rfl)) (pgs_cons (pg_name (i := 4) sc_Course__play_round.nd rfl (Or.inl rfl)) (pgs_cons (pg_name (i := 5) sc_Course__play_round.nd rfl (Or.inl rfl)) pgs_nil))))) (pss_cons (ps_set (i := 6) sc_Course__play_round.nd rfl (Or.inl rfl) (pe_callB (r := rMax2) (call_max2 rfl) (by rfl) T.b_max boot_max (pa_cons pe_int (pa_cons (pe_op op_sub (pe_op op_add (pe_ix (r := rIxL K) ix_list (pv 2) (pe_un un_neg pe_int) (fun _ _ => rfl)) (pv 3)) (pv 4)) pa_nil))))
      (pss_one (ps_expr (pe_bm PySem.F.plainAttrs_list PySem.F.slot_list_append PySem.F.type_list_append mt_append (pv 2) (pa_cons (pe_callB (r := rMn) (call_min2 rfl) (by rfl) T.b_min boot_min (pa_cons (pv 6) (pa_cons (pv 5) pa_nil))) pa_nil))))))
      (pss_one (ps_ret (pv 2))))), ?_⟩
    refine q_asgL (xs := [.int s]) (el_lst (ea_cons (ev_var rfl) ea_nil) (by show 1 ≤ 100000; decide)) fun p H1 hp e1 h1 => ?_
    refine q_forZ3 (n := bs.length) (G := H) (ea_cons (Ev.mono e1 (by walk_at "ev")) (ea_cons (Ev.mono e1 (by walk_at "ev")) (ea_cons (Ev.mono e1 (by walk_at "ev")) ea_nil))) e1 hP.hb hP.hd hP.hk (by simp) (by simp [hP.gd.ld]) (by simp [hP.kl])
      (fun i σ' H' => (∃ a b c' d, σ' = [some (.ref c), some (.int s), some (.ref p), a, b, c', d]) ∧ Ex H H' ∧ H' p = some (.lst (((List.range (i + 1)).map (stkAt bs ds ks s)).map V.int))) ?_ ?_ ?_ ?_
    · intro H2 e2
      exact ⟨⟨_, _, _, _, rfl⟩, e1.trans e2, e2 p _ h1⟩
    · intro i σ' H' _ p
      exact p.2.1
    · rintro i x y z σ' H' hx hy hz ⟨⟨_, _, _, _, rfl⟩, e2, h2⟩ H3 e3
      obtain ⟨rfl, hi⟩ := at_map hx
      obtain ⟨rfl, _⟩ := at_map hy
      obtain ⟨rfl, _⟩ := at_map hz
      have h3 := e3 p _ h2
      have hlast : ((List.range (i + 1)).map (stkAt bs ds ks s)).map V.int = ((List.range i).map (stkAt bs ds ks s)).map V.int ++ [V.int (stkAt bs ds ks s i)] := by
        rw [List.range_succ, List.map_append, List.map_append]; rfl
      refine q_asg (ev_maxi ev_c (ev_op (ev_op (ev_ixL (v := .int (stkAt bs ds ks s i)) (ev_var rfl) (sq_of h3) (by walk_at "ev") (by rw [hlast]; exact atI_last)) (ev_var rfl) rv_I0) (ev_var rfl) rv_I0)) fun H4 e4 => ?_
      refine s_app (e4 p _ h3) (ev_var rfl) (by walk_at "ev") (by simp; omega) fun H5 e5 => ?_
      refine ⟨⟨_, _, _, _, rfl⟩, Ex.mut (((e2.trans e3).trans e4).trans e5) hp, ?_⟩
      rw [upd_same, List.range_succ (n := i + 1), List.map_append, List.map_append]
      rfl
    · rintro σ' H' ⟨⟨_, _, _, _, rfl⟩, e2, h2⟩
      exact s_ret (ev_var rfl) fun H3 e3 => k p H3 hp (e2.trans e3) (e3 p _ h2)
end Sw
namespace Sw
open PySem PySem.Spec PyProof.Rows L2 Evl
local macro_rules | `(tactic| walk_at "ev") => `(tactic| first
  | exact ev_c
  | exact ev_var rfl
  | ((with_reducible show Ev (tCB rMax2 _) _ _ _); exact ev_maxi (by walk_at "ev") (by walk_at "ev"))
  | ((with_reducible show Ev (tCB rMn _) _ _ _); exact ev_min2 (by walk_at "ev") (by walk_at "ev"))
  | ((with_reducible show Ev (tUn _ _) _ _ _); exact ev_un (by walk_at "ev") ru_neg)
  | ((with_reducible show Ev (tFld _ _ _) _ _ _); exact ev_fldK (by walk_at "ev") (by assumption))
  | ((with_reducible show Ev (tOp (rI0 _) _ _) _ _ _); exact ev_op (by walk_at "ev") (by walk_at "ev") rv_I0)
  | ((with_reducible show Ev (tOp rEq _ _) _ _ _); exact ev_op (by walk_at "ev") (by walk_at "ev") (rv_eq rfl))
  | ((with_reducible show Ev (tOp rNe _ _) _ _ _); exact ev_op (by walk_at "ev") (by walk_at "ev") (rv_ne rfl)))

/-- a promise's uses -/
theorem spl_play {K : PySem.W.Frag} {Z : Ad} {H : Hp} {c : Addr} {bs ds ks : List Int} {tb td tk : Addr} {s : Int} (h : PR K Z H c bs ds ks tb td tk) : SpL (sp_play K Z) [.ref c, .int s] H ((stkL bs ds ks s).map V.int) :=
  fun _ e _ q _ => ⟨c, bs, ds, ks, tb, td, tk, s, rfl, h.mono e, q⟩
def sp_stocks (K : PySem.W.Frag) (Z : Ad) : Sp := fun vs H Q _ => ∃ (c : Addr) (bs ds ks : List Int) (tb td tk : Addr) (gain first full r : Int), vs = [.ref c, .int r] ∧ SR K Z H c bs ds ks tb td tk gain first full ∧ RetL ((stkL bs ds ks (start1 gain first full r)).map V.int) H Q
theorem spl_stocks {K : PySem.W.Frag} {Z : Ad} {H : Hp} {c : Addr} {bs ds ks : List Int} {tb td tk : Addr} {gain first full r : Int} (h : SR K Z H c bs ds ks tb td tk gain first full) :
    SpL (sp_stocks K Z) [.ref c, .int r] H ((stkL bs ds ks (start1 gain first full r)).map V.int) :=
  fun _ e _ q _ => ⟨c, bs, ds, ks, tb, td, tk, gain, first, full, r, rfl, h.mono e, q⟩
variable {P : Program} {w : World} {K : PySem.W.Frag} {mg : Str → Option Value} {base : Heap} {Z : Ad}
theorem ok_Course__stocks_in (T : Txt K mg Z) : FnOk P w K mg base CX0 2 Z.f_Course__stocks_in Z.d_Course__stocks_in p_Course__stocks_in (sp_stocks K Z) := by
  refine T.F_Course__stocks_in.ok sc_Course__stocks_in (fun vs H Q E h => ?_) (fun cdv Ar outer s H vs Q E hr h => ?_)
  · obtain ⟨c, bs, ds, ks, tb, td, tk, gain, first, full, r, rfl, _⟩ := h
    rfl
  · obtain ⟨c, bs, ds, ks, tb, td, tk, gain, first, full, r, rfl, hS, k⟩ := h
    have hP := hS.pr
    refine ⟨_, (pss_cons (ps_if (pt_cmpR op_eq (pv 1) pe_int (nomark _)) (pss_one (ps_ret (pe_meth (pv 0) T.cl_Course T.m_Course__play_round (ok_Course__play_round T) (hr.mono (by decide)) T.b_Course__play_round .nil pass0 (pa_cons pe_int pa_nil)))) pss_nil)
      (pss_cons (ps_set (i := 2) sc_Course__stocks_in.nd rfl (Or.inl rfl) (pe_callB (r := rMn) (call_min2 rfl) (by rfl) T.b_min boot_min (pa_cons (pe_fldK K rfl (pv 0) rfl) (pa_cons (pe_op op_add (pe_fldK K rfl (pv 0) rfl) (pe_op op_mul (pe_op op_sub (pv 1) pe_int) (pe_fldK K rfl (pv 0) rfl))) pa_nil))))
      (pss_one (ps_ret (pe_meth (pv 0) T.cl_Course T.m_Course__play_round (ok_Course__play_round T) (hr.mono (by decide)) T.b_Course__play_round .nil pass0 (pa_cons (pv 2) pa_nil)))))), ?_⟩
    refine q_when (et_test (by walk_at "ev")) (fun hb H1 e1 => ?_) (fun hb H1 e1 => ?_)
    · have hr0 : r = 0 := by simpa using hb
      refine s_retL (el_meth (ev_var rfl) (hP.nf.mono e1) (ea_cons ev_c ea_nil) (spl_play (s := 0) (hP.mono e1))) fun p H2 hp e2 h2 => ?_
      refine k p H2 (fresh_back e1 hp) (e1.trans e2) ?_
      rw [h2]
      unfold start1
      rw [if_pos hr0]
    · have hr0 : ¬ r = 0 := by simpa using hb
      have fg := hS.fg.mono e1
      have ff := hS.ff.mono e1
      have fu := hS.fu.mono e1
      refine q_asg (ev_min2 (by walk_at "ev") (ev_op (by walk_at "ev") (ev_op (by walk_at "ev") (by walk_at "ev") (rv_I (wide_ok hS.gb))) rv_I0)) fun H2 e2 => ?_
      refine s_retL (el_meth (ev_var rfl) (hP.nf.mono (e1.trans e2)) (ea_cons (ev_var rfl) ea_nil) (spl_play (hP.mono (e1.trans e2)))) fun p H3 hp e3 h3 => ?_
      refine k p H3 (fresh_back (e1.trans e2) hp) ((e1.trans e2).trans e3) ?_
      rw [h3]
      unfold start1
      rw [if_neg hr0]
/-- what a course tells -/
def stockI (bs ds ks : List Int) (gain first full day : Int) : Int := stkAt bs ds ks (start1 gain first full (day / (bs.length : Int))) (day % (bs.length : Int)).toNat
structure SM (K : PySem.W.Frag) (Z : Ad) (H : Hp) (c : Addr) (bs ds ks : List Int) (tb td tk : Addr) (gain first full : Int) : Prop where
  sr : SR K Z H c bs ds ks tb td tk gain first full
  nm : NoF H c Z.c_Course "_misses_in"
theorem SM.mono {K : PySem.W.Frag} {Z : Ad} {H H' : Hp} {c : Addr} {bs ds ks : List Int} {tb td tk : Addr} {gain first full : Int} (e : Ex H H') (h : SM K Z H c bs ds ks tb td tk gain first full) : SM K Z H' c bs ds ks tb td tk gain first full := ⟨h.sr.mono e, h.nm.mono e⟩
def sp_misses (K : PySem.W.Frag) (Z : Ad) : Sp := fun vs H Q _ => ∃ (c : Addr) (bs ds ks : List Int) (tb td tk : Addr) (gain first full r : Int), vs = [.ref c, .int r] ∧ SR K Z H c bs ds ks tb td tk gain first full ∧ RetL ((missL ds bs (stkL bs ds ks (start1 gain first full r))).map V.int) H Q
theorem spl_misses {K : PySem.W.Frag} {Z : Ad} {H : Hp} {c : Addr} {bs ds ks : List Int} {tb td tk : Addr} {gain first full r : Int} (h : SR K Z H c bs ds ks tb td tk gain first full) :
    SpL (sp_misses K Z) [.ref c, .int r] H ((missL ds bs (stkL bs ds ks (start1 gain first full r))).map V.int) :=
  fun _ e _ q _ => ⟨c, bs, ds, ks, tb, td, tk, gain, first, full, r, rfl, h.mono e, q⟩
theorem ok_Course__misses_in (T : Txt K mg Z) : FnOk P w K mg base CX0 3 Z.f_Course__misses_in Z.d_Course__misses_in p_Course__misses_in (sp_misses K Z) := by
  refine T.F_Course__misses_in.ok sc_Course__misses_in (fun vs H Q E h => ?_) (fun cdv Ar outer s H vs Q E hr h => ?_)
  · obtain ⟨c, bs, ds, ks, tb, td, tk, gain, first, full, r, rfl, _⟩ := h
    rfl
  · obtain ⟨c, bs, ds, ks, tb, td, tk, gain, first, full, r, rfl, hS, k⟩ := h
    have hP := hS.pr
    have hn := hP.gd.n1
    have hl := hP.gd.ld
    refine ⟨_, (pss_cons (ps_set (i := 2) sc_Course__misses_in.nd rfl (Or.inr rfl) (pe_meth (pv 0) T.cl_Course T.m_Course__stocks_in (ok_Course__stocks_in T) (hr.mono (by decide)) T.b_Course__stocks_in .nil pass0 (pa_cons (pv 1) pa_nil)))
      (pss_one (ps_ret (pe_lc (own := [("at", 3), ("demand", 4)]) rfl sc_Course__misses_in.nd (pi_enumTK K rfl (by rfl) T.b_enumerate (pa_cons (pe_fldK K rfl (pv 0) rfl) pa_nil)) (blkOk_by (own := [("at", 3), ("demand", 4)]) (N := n_Course__misses_in) (sc := defScope s_Course__misses_in) (scope := { kind := PySem.ScopeKind.function, names := [ (PySem.Str.ofString ".0", PySem.NameKind.local), (PySem.Str.ofString "at", PySem.NameKind.local), (PySem.Str.ofString "demand", PySem.NameKind.local), (PySem.Str.ofString "max", PySem.NameKind.globalImplicit), (PySem.Str.ofString "self", PySem.NameKind.free), (PySem.Str.ofString "stocks", PySem.NameKind.free)], isGenerator := false, isCoroutine := false, more := [] : PySem.Scope }) (by decide +kernel)) (fun _ _ _ _ _ => (by exact (pg_tupK K (n := 2) rfl rfl (pgs_cons (pg_name (i := 3) sc_Course__misses_in.nd rfl (Or.inl rfl)) (pgs_cons (pg_name (i := 4) sc_Course__misses_in.nd rfl (Or.inl rfl)) pgs_nil))))) (fun _ _ _ _ _ => pts_nil) (fun _ _ _ _ _ => (pe_callB (r := rMax2) (call_max2 rfl) (by rfl) T.b_max boot_max (pa_cons pe_int (pa_cons (pe_op op_sub (pe_op op_sub (pv 4) (pe_ix (r := rIxL K) ix_list (pv 2) (pv 3) (fun _ _ => rfl))) (pe_ix (r := rIxT K) ix_tup (pe_fldK K rfl (pv 0) rfl) (pv 3) (fun _ _ => rfl))) pa_nil)))))))), ?_⟩
    refine q_asgL (el_meth (ev_var rfl) hS.nf (ea_cons (ev_var rfl) ea_nil) (spl_stocks hS)) fun p H1 hp e1 h1 => ?_
    have hP1 := hP.mono e1
    have fb := hP1.fb
    have fd := hP1.fd
    refine s_retL (xs := (missL ds bs (stkL bs ds ks (start1 gain first full r))).map V.int) ?_ fun q H2 hq e2 h2 => k q H2 (fresh_back e1 hq) (e1.trans e2) h2
    unfold missL
    rw [← rng_map]
    have hdl : (ds.map V.int).length = ds.length := by rw [List.length_map]
    rw [← hdl]
    refine el_lcEnT _ (ea_cons (by walk_at "ev") ea_nil) hP1.hd (by rw [hdl]; omega) (fun _ _ => rfl) fun i x H3 e3 hx => ?_
    obtain ⟨rfl, hi⟩ := at_map hx
    have fb3 := fb.mono e3
    refine ev_maxi ev_c (ev_op (ev_op (ev_var rfl) (ev_ixL (ev_var rfl) (sq_of (e3 p _ h1)) (ev_var rfl) (atI_mapI (i := (i : Int)) (by omega) (by rw [stkL_len]; omega))) rv_I0) (ev_ixT (by walk_at "ev") (ex_t e3 hP1.hb) (ev_var rfl) (atI_mapI (i := (i : Int)) (by omega) (by omega))) rv_I0)
def sp_growing (K : PySem.W.Frag) (Z : Ad) : Sp := fun vs H Q _ => ∃ (c : Addr) (bs ds ks : List Int) (tb td tk : Addr) (gain first full : Int), vs = [.ref c] ∧ SR K Z H c bs ds ks tb td tk gain first full ∧ 0 ≤ gain ∧ RetV (.int (growing gain first full)) H Q
theorem ok_Course__count_growing (T : Txt K mg Z) : FnOk P w K mg base CX0 1 Z.f_Course__count_growing Z.d_Course__count_growing p_Course__count_growing (sp_growing K Z) := by
  refine T.F_Course__count_growing.ok sc_Course__count_growing (fun vs H Q E h => ?_) (fun cdv Ar outer s H vs Q E hr h => ?_)
  · obtain ⟨c, bs, ds, ks, tb, td, tk, gain, first, full, rfl, _⟩ := h
    rfl
  · obtain ⟨c, bs, ds, ks, tb, td, tk, gain, first, full, rfl, hS, hg, k⟩ := h
    have fg := hS.fg
    refine ⟨_, (pss_cons (ps_if (pt_cmpR op_eq (pe_fldK K rfl (pv 0) rfl) pe_int (nomark _)) (pss_one (ps_ret pe_int)) pss_nil)
      (pss_one (ps_ret (pe_un un_neg (pe_op op_fdivW (pe_op op_sub (pe_fldK K rfl (pv 0) rfl) (pe_fldK K rfl (pv 0) rfl)) (pe_fldK K rfl (pv 0) rfl)))))), ?_⟩
    refine q_when (et_test (by walk_at "ev")) (fun hb H1 e1 => ?_) (fun hb H1 e1 => ?_)
    · have hr0 : gain = 0 := by simpa using hb
      refine s_ret ev_c fun H2 e2 => ?_
      have z := k H2 (e1.trans e2)
      unfold growing at z
      rw [if_pos hr0] at z
      exact z
    · have hr0 : ¬ gain = 0 := by simpa using hb
      have fg := hS.fg.mono e1
      have ff := hS.ff.mono e1
      have fu := hS.fu.mono e1
      refine s_ret (ev_un (ev_op (by walk_at "ev") (by walk_at "ev") (rv_I (wide_div (by omega) hS.gb (by decide) (by decide)))) ru_neg) fun H2 e2 => ?_
      have z := k H2 (e1.trans e2)
      unfold growing at z
      rw [if_neg hr0] at z
      exact z
def sp_stock_at (K : PySem.W.Frag) (Z : Ad) : Sp := fun vs H Q _ => ∃ (c : Addr) (bs ds ks : List Int) (tb td tk : Addr) (gain first full day : Int), vs = [.ref c, .int day] ∧ SR K Z H c bs ds ks tb td tk gain first full ∧ RetV (.int (stockI bs ds ks gain first full day)) H Q
theorem spv_stock_at {K : PySem.W.Frag} {Z : Ad} {H : Hp} {c : Addr} {bs ds ks : List Int} {tb td tk : Addr} {gain first full day : Int} (h : SR K Z H c bs ds ks tb td tk gain first full) :
    SpV (sp_stock_at K Z) [.ref c, .int day] H (.int (stockI bs ds ks gain first full day)) :=
  fun _ e _ q _ => ⟨c, bs, ds, ks, tb, td, tk, gain, first, full, day, rfl, h.mono e, q⟩
theorem getD_map {ns : List Int} {i : Nat} : (ns.map V.int).getD i (V.int 0) = V.int (ns.getD i 0) := by
  simp [List.getD]
theorem ok_Course_stock_at (T : Txt K mg Z) : FnOk P w K mg base CX0 3 Z.f_Course_stock_at Z.d_Course_stock_at p_Course_stock_at (sp_stock_at K Z) := by
  refine T.F_Course_stock_at.ok sc_Course_stock_at (fun vs H Q E h => ?_) (fun cdv Ar outer s H vs Q E hr h => ?_)
  · obtain ⟨c, bs, ds, ks, tb, td, tk, gain, first, full, day, rfl, _⟩ := h
    rfl
  · obtain ⟨c, bs, ds, ks, tb, td, tk, gain, first, full, day, rfl, hS, k⟩ := h
    have hP := hS.pr
    have fb := hP.fb
    have h0 := hP.gd.n0
    have h1 := hP.gd.n1
    have hl : ((bs.map V.int).length : Int) = (bs.length : Int) := by rw [List.length_map]
    have hr0 : 0 ≤ day % (bs.length : Int) := Int.emod_nonneg _ (by omega)
    have hr1 : day % (bs.length : Int) < (bs.length : Int) := Int.emod_lt_of_pos _ (by omega)
    refine ⟨_, (pss_cons (ps_asg (pe_callB (r := rDm) (call_divmod) (by rfl) T.b_divmod boot_divmod (pa_cons (pv 1) (pa_cons (pe_callB (r := rLenS K) (call_len_seq) (by rfl) T.b_len boot_len (pa_cons (pe_fldK K rfl (pv 0) rfl) pa_nil)) pa_nil))) (by exact (pg_tupK K (n := 2) rfl rfl (pgs_cons (pg_name (i := 2) sc_Course_stock_at.nd rfl (Or.inl rfl)) (pgs_cons (pg_name (i := 3) sc_Course_stock_at.nd rfl (Or.inl rfl)) pgs_nil)))))
      (pss_one (ps_ret (pe_ix (r := rIxL K) ix_list (pe_meth (pv 0) T.cl_Course T.m_Course__stocks_in (ok_Course__stocks_in T) (hr.mono (by decide)) T.b_Course__stocks_in .nil pass0 (pa_cons (pv 2) pa_nil)) (pv 3) (fun _ _ => rfl))))), ?_⟩
    refine q_pair (eu_dm (ev_var rfl) (Ev.int_eq (ev_lenT (by walk_at "ev") hP.hb) hl) ⟨by omega, by omega⟩) fun H1 e1 => ?_
    refine s_ret (ev_ixNL (el_meth (ev_var rfl) (hS.nf.mono e1) (ea_cons (ev_var rfl) ea_nil) (spl_stocks (hS.mono e1))) (ev_var rfl) (atI_mapI hr0 (by rw [stkL_len]; omega))) fun H2 e2 => ?_
    have z := k H2 (e1.trans e2)
    rw [stkL_get (by omega)]
    exact z
/-- a day's sales: sold, missed, thrown -/
def soldI (bs ds ks : List Int) (gain first full day : Int) : Int := min (stockI bs ds ks gain first full day + bs.getD (day % (bs.length : Int)).toNat 0) (ds.getD (day % (bs.length : Int)).toNat 0)
def endI (bs ds ks : List Int) (gain first full day : Int) : Int := stkAt bs ds ks (start1 gain first full (day / (bs.length : Int))) ((day % (bs.length : Int)).toNat + 1)
def salesI (bs ds ks : List Int) (gain first full day : Int) : List Int :=
  [soldI bs ds ks gain first full day, ds.getD (day % (bs.length : Int)).toNat 0 - soldI bs ds ks gain first full day,
   stockI bs ds ks gain first full day + bs.getD (day % (bs.length : Int)).toNat 0 - soldI bs ds ks gain first full day - endI bs ds ks gain first full day]
def sp_sales_on (K : PySem.W.Frag) (Z : Ad) : Sp := fun vs H Q _ => ∃ (c : Addr) (bs ds ks : List Int) (tb td tk : Addr) (gain first full day : Int), vs = [.ref c, .int day] ∧ SR K Z H c bs ds ks tb td tk gain first full ∧ RetU ((salesI bs ds ks gain first full day).map V.int) H Q
theorem spu_sales_on {K : PySem.W.Frag} {Z : Ad} {H : Hp} {c : Addr} {bs ds ks : List Int} {tb td tk : Addr} {gain first full day : Int} (h : SR K Z H c bs ds ks tb td tk gain first full) :
    SpU (sp_sales_on K Z) [.ref c, .int day] H ((salesI bs ds ks gain first full day).map V.int) :=
  fun _ e _ q _ => ⟨c, bs, ds, ks, tb, td, tk, gain, first, full, day, rfl, h.mono e, q⟩
theorem ok_Course_sales_on (T : Txt K mg Z) : FnOk P w K mg base CX0 3 Z.f_Course_sales_on Z.d_Course_sales_on p_Course_sales_on (sp_sales_on K Z) := by
  refine T.F_Course_sales_on.ok sc_Course_sales_on (fun vs H Q E h => ?_) (fun cdv Ar outer s H vs Q E hr h => ?_)
  · obtain ⟨c, bs, ds, ks, tb, td, tk, gain, first, full, day, rfl, _⟩ := h
    rfl
  · obtain ⟨c, bs, ds, ks, tb, td, tk, gain, first, full, day, rfl, hS, k⟩ := h
    have hP := hS.pr
    have fb := hP.fb
    have h0 := hP.gd.n0
    have h1 := hP.gd.n1
    have hld := hP.gd.ld
    have hl : ((bs.map V.int).length : Int) = (bs.length : Int) := by rw [List.length_map]
    have hr0 : 0 ≤ day % (bs.length : Int) := Int.emod_nonneg _ (by omega)
    have hr1 : day % (bs.length : Int) < (bs.length : Int) := Int.emod_lt_of_pos _ (by omega)
    refine ⟨_, (pss_cons (ps_asg (pe_callB (r := rDm) (call_divmod) (by rfl) T.b_divmod boot_divmod (pa_cons (pv 1) (pa_cons (pe_callB (r := rLenS K) (call_len_seq) (by rfl) T.b_len boot_len (pa_cons (pe_fldK K rfl (pv 0) rfl) pa_nil)) pa_nil))) (by exact (pg_tupK K (n := 2) rfl rfl (pgs_cons (pg_name (i := 2) sc_Course_sales_on.nd rfl (Or.inl rfl)) (pgs_cons (pg_name (i := 3) sc_Course_sales_on.nd rfl (Or.inl rfl)) pgs_nil)))))
      (pss_cons (ps_set (i := 4) sc_Course_sales_on.nd rfl (Or.inl rfl) (pe_meth (pv 0) T.cl_Course T.m_Course__stocks_in (ok_Course__stocks_in T) (hr.mono (by decide)) T.b_Course__stocks_in .nil pass0 (pa_cons (pv 2) pa_nil)))
      (pss_cons (ps_set (i := 5) sc_Course_sales_on.nd rfl (Or.inl rfl) (pe_op op_add (pe_ix (r := rIxL K) ix_list (pv 4) (pv 3) (fun _ _ => rfl)) (pe_ix (r := rIxT K) ix_tup (pe_fldK K rfl (pv 0) rfl) (pv 3) (fun _ _ => rfl))))
      (pss_cons (ps_set (i := 6) sc_Course_sales_on.nd rfl (Or.inl rfl) (pe_callB (r := rMn) (call_min2 rfl) (by rfl) T.b_min boot_min (pa_cons (pv 5) (pa_cons (pe_ix (r := rIxT K) ix_tup (pe_fldK K rfl (pv 0) rfl) (pv 3) (fun _ _ => rfl)) pa_nil))))
      (pss_one (ps_ret (pe_tup (pa_cons (pv 6) (pa_cons (pe_op op_sub (pe_ix (r := rIxT K) ix_tup (pe_fldK K rfl (pv 0) rfl) (pv 3) (fun _ _ => rfl)) (pv 6)) (pa_cons (pe_op op_sub (pe_op op_sub (pv 5) (pv 6)) (pe_ix (r := rIxL K) ix_list (pv 4) (pe_op op_add (pv 3) pe_int) (fun _ _ => rfl))) pa_nil)))))))))), ?_⟩
    refine q_pair (eu_dm (ev_var rfl) (Ev.int_eq (ev_lenT (by walk_at "ev") hP.hb) hl) ⟨by omega, by omega⟩) fun H1 e1 => ?_
    refine q_asgL (el_meth (ev_var rfl) (hS.nf.mono e1) (ea_cons (ev_var rfl) ea_nil) (spl_stocks (hS.mono e1))) fun p H2 hp e2 h2 => ?_
    have hP2 := hP.mono (e1.trans e2)
    have fb := hP2.fb
    have fd := hP2.fd
    refine q_asg (ev_op (ev_ixL (ev_var rfl) (sq_of h2) (ev_var rfl) (atI_mapI hr0 (by rw [stkL_len]; omega))) (ev_ixT (by walk_at "ev") hP2.hb (ev_var rfl) (atI_mapI hr0 hr1)) rv_I0) fun H3 e3 => ?_
    have fd3 := fd.mono e3
    refine q_asg (ev_min2 (ev_var rfl) (ev_ixT (by walk_at "ev") (ex_t e3 hP2.hd) (ev_var rfl) (atI_mapI hr0 (by omega)))) fun H4 e4 => ?_
    have fd4 := fd3.mono e4
    have ht : (day % (bs.length : Int) + 1).toNat = (day % (bs.length : Int)).toNat + 1 := by omega
    refine s_retU (eu_tup (ea_cons (ev_var rfl) (ea_cons (ev_op (ev_ixT (by walk_at "ev") (ex_t (e3.trans e4) hP2.hd) (ev_var rfl) (atI_mapI hr0 (by omega))) (ev_var rfl) rv_I0) (ea_cons (ev_op (ev_op (ev_var rfl) (ev_var rfl) rv_I0) (ev_ixL (ev_var rfl) (sq_of (e4 p _ (e3 p _ h2))) (by walk_at "ev") (atI_mapI (by omega) (by rw [stkL_len]; omega))) rv_I0) ea_nil))) (by show 3 ≤ 100000; decide)) fun q H5 hq e5 h5 => ?_
    refine k q H5 (fresh_back ((e1.trans e2).trans (e3.trans e4)) hq) (((e1.trans e2).trans (e3.trans e4)).trans e5) ?_
    rw [h5, ht, stkL_get (by omega), stkL_get (by omega)]
    rfl
end Sw
namespace Sw
open PySem PySem.Spec PyProof.Rows L2 Evl
local macro_rules | `(tactic| walk_at "ev") => `(tactic| first
  | exact ev_c
  | exact ev_var rfl
  | ((with_reducible show Ev (tCB rMax2 _) _ _ _); exact ev_maxi (by walk_at "ev") (by walk_at "ev"))
  | ((with_reducible show Ev (tCB rMn _) _ _ _); exact ev_min2 (by walk_at "ev") (by walk_at "ev"))
  | ((with_reducible show Ev (tUn _ _) _ _ _); exact ev_un (by walk_at "ev") ru_neg)
  | ((with_reducible show Ev (tFld _ _ _) _ _ _); exact ev_fldK (by walk_at "ev") (by assumption))
  | ((with_reducible show Ev (tOp (rI0 _) _ _) _ _ _); exact ev_op (by walk_at "ev") (by walk_at "ev") rv_I0)
  | ((with_reducible show Ev (tOp rEq _ _) _ _ _); exact ev_op (by walk_at "ev") (by walk_at "ev") (rv_eq rfl))
  | ((with_reducible show Ev (tOp rNe _ _) _ _ _); exact ev_op (by walk_at "ev") (by walk_at "ev") (rv_ne rfl)))

/-! ### find_settled, sum_settled_round, sales_before -/
structure FS (K : PySem.W.Frag) (Z : Ad) (H : Hp) (c : Addr) (bs ds ks : List Int) (tb td tk : Addr) (gain first full : Int) : Prop where
  sr : SR K Z H c bs ds ks tb td tk gain first full
  ng : NoF H c Z.c_Course "_count_growing"
theorem FS.mono {K : PySem.W.Frag} {Z : Ad} {H H' : Hp} {c : Addr} {bs ds ks : List Int} {tb td tk : Addr} {gain first full : Int} (e : Ex H H') (h : FS K Z H c bs ds ks tb td tk gain first full) : FS K Z H' c bs ds ks tb td tk gain first full := ⟨h.sr.mono e, h.ng.mono e⟩
/-- the first day of the round behind the growing ones that is as a round later -/
def SetAt (bs ds ks : List Int) (gain first full : Int) (i : Nat) : Prop := i ≤ bs.length ∧
  stkAt bs ds ks (start1 gain first full (growing gain first full)) i = stkAt bs ds ks (start1 gain first full (growing gain first full + 1)) i ∧
  ∀ j, j < i → stkAt bs ds ks (start1 gain first full (growing gain first full)) j ≠ stkAt bs ds ks (start1 gain first full (growing gain first full + 1)) j
def sp_settled (K : PySem.W.Frag) (Z : Ad) : Sp := fun vs H Q _ => ∃ (c : Addr) (bs ds ks : List Int) (tb td tk : Addr) (gain first full : Int) (i : Nat), vs = [.ref c] ∧ FS K Z H c bs ds ks tb td tk gain first full ∧ 0 ≤ gain ∧ SetAt bs ds ks gain first full i ∧
  RetV (.int (growing gain first full * (bs.length : Int) + (i : Int))) H Q
theorem spv_growing {K : PySem.W.Frag} {Z : Ad} {H : Hp} {c : Addr} {bs ds ks : List Int} {tb td tk : Addr} {gain first full : Int} (h : SR K Z H c bs ds ks tb td tk gain first full) (hg : 0 ≤ gain) :
    SpV (sp_growing K Z) [.ref c] H (.int (growing gain first full)) := fun _ e _ q _ => ⟨c, bs, ds, ks, tb, td, tk, gain, first, full, rfl, h.mono e, hg, q⟩
variable {P : Program} {w : World} {K : PySem.W.Frag} {mg : Str → Option Value} {base : Heap} {Z : Ad}
theorem ok_Course_find_settled (T : Txt K mg Z) : FnOk P w K mg base CX0 3 Z.f_Course_find_settled Z.d_Course_find_settled p_Course_find_settled (sp_settled K Z) := by
  refine T.F_Course_find_settled.ok sc_Course_find_settled (fun vs H Q E h => ?_) (fun cdv Ar outer s H vs Q E hr h => ?_)
  · obtain ⟨c, bs, ds, ks, tb, td, tk, gain, first, full, i, rfl, _⟩ := h
    rfl
  · obtain ⟨c, bs, ds, ks, tb, td, tk, gain, first, full, i, rfl, hF, hg, hi, k⟩ := h
    have hS := hF.sr
    have hP := hS.pr
    have hn := hP.gd.n1
    refine ⟨_, (pss_cons (ps_set (i := 1) sc_Course_find_settled.nd rfl (Or.inl rfl) (pe_meth0 (pv 0) T.cl_Course T.m_Course__count_growing (ok_Course__count_growing T) (hr.mono (by decide)) T.b_Course__count_growing .nil pass0))
      (pss_cons (ps_set (i := 2) sc_Course_find_settled.nd rfl (Or.inl rfl) (pe_meth (pv 0) T.cl_Course T.m_Course__stocks_in (ok_Course__stocks_in T) (hr.mono (by decide)) T.b_Course__stocks_in .nil pass0 (pa_cons (pv 1) pa_nil)))
      (pss_cons (ps_set (i := 3) sc_Course_find_settled.nd rfl (Or.inl rfl) (pe_meth (pv 0) T.cl_Course T.m_Course__stocks_in (ok_Course__stocks_in T) (hr.mono (by decide)) T.b_Course__stocks_in .nil pass0 (pa_cons (pe_op op_add (pv 1) pe_int) pa_nil)))
      (pss_cons (ps_set (i := 4) sc_Course_find_settled.nd rfl (Or.inl rfl) pe_int)
      (pss_cons (ps_while PassesOwn.never (pt_cmpR op_ne (pe_ix (r := rIxL K) ix_list (pv 2) (pv 4) (fun _ _ => rfl)) (pe_ix (r := rIxL K) ix_list (pv 3) (pv 4) (fun _ _ => rfl)) (nomark _)) (pss_one (ps_aug (i := 4) sc_Course_find_settled.nd rfl (Or.inl rfl) pe_int in_add)))
      (pss_one (ps_ret (pe_op op_add (pe_op op_mul (pv 1) (pe_callB (r := rLenS K) (call_len_seq) (by rfl) T.b_len boot_len (pa_cons (pe_fldK K rfl (pv 0) rfl) pa_nil))) (pv 4))))))))), ?_⟩
    refine q_asg (ev_meth (ev_var rfl) hF.ng ea_nil (spv_growing hS hg)) fun H1 e1 => ?_
    refine q_asgL (el_meth (ev_var rfl) (hS.nf.mono e1) (ea_cons (ev_var rfl) ea_nil) (spl_stocks (hS.mono e1))) fun p H2 hp e2 h2 => ?_
    refine q_asgL (el_meth (ev_var rfl) (hS.nf.mono (e1.trans e2)) (ea_cons (by walk_at "ev") ea_nil) (spl_stocks (hS.mono (e1.trans e2)))) fun q H3 hq e3 h3 => ?_
    refine q_asg ev_c fun H4 e4 => ?_
    refine q_while (fun m σ' H' => ∃ j : Nat, m = i - j ∧ j ≤ i ∧ σ' = [some (.ref c), some (.int (growing gain first full)), some (.ref p), some (.ref q), some (.int (j : Int))] ∧ Ex H4 H') i ⟨0, rfl, Nat.zero_le _, rfl, Ex.refl _⟩ ?_
    rintro m σ' H' ⟨j, rfl, hj, rfl, e5⟩
    have hjn : j ≤ bs.length := Nat.le_trans hj hi.1
    refine ⟨!decide (stkAt bs ds ks (start1 gain first full (growing gain first full)) j = stkAt bs ds ks (start1 gain first full (growing gain first full + 1)) j), ?_, fun hb H5 e6 => ?_, fun hb H5 e6 => ?_⟩
    · refine et_test ?_
      refine ev_is (ev_op (ev_ixL (ev_var rfl) (sq_of (e5 _ _ (e4 _ _ (e3 _ _ h2)))) (ev_var rfl) (atI_mapI (i := (j : Int)) (by omega) (by rw [stkL_len]; omega)))
        (ev_ixL (ev_var rfl) (sq_of (e5 _ _ (e4 _ _ h3))) (ev_var rfl) (atI_mapI (i := (j : Int)) (by omega) (by rw [stkL_len]; omega))) (rv_ne rfl)) ?_
      rw [Int.toNat_natCast, stkL_get hjn, stkL_get hjn]
      simp
    · have hne : stkAt bs ds ks (start1 gain first full (growing gain first full)) j ≠ stkAt bs ds ks (start1 gain first full (growing gain first full + 1)) j := by simpa using hb
      have hlt : j < i := by
        rcases Nat.lt_or_ge j i with z | z
        · exact z
        · have : j = i := by omega
          subst this
          exact absurd hi.2.1 hne
      refine ⟨fun σ2 H2 => ∃ m', m' < i - j ∧ ∃ j' : Nat, m' = i - j' ∧ j' ≤ i ∧ σ2 = [some (.ref c), some (.int (growing gain first full)), some (.ref p), some (.ref q), some (.int (j' : Int))] ∧ Ex H4 H2, fun σ2 H2 h => h, ?_⟩
      refine s_aug (a := (j : Int)) (b := 1) rfl ev_c fun H6 e7 => ?_
      exact ⟨i - (j + 1), by omega, j + 1, rfl, hlt, rfl, (e5.trans e6).trans e7⟩
    · have heq : stkAt bs ds ks (start1 gain first full (growing gain first full)) j = stkAt bs ds ks (start1 gain first full (growing gain first full + 1)) j := by simpa using hb
      have hji : j = i := by
        rcases Nat.lt_or_ge j i with z | z
        · exact absurd heq (hi.2.2 j z)
        · omega
      subst hji
      have eA : Ex H H5 := ((((e1.trans e2).trans e3).trans e4).trans e5).trans e6
      have fb := hP.fb.mono eA
      have hl : ((bs.map V.int).length : Int) = (bs.length : Int) := by rw [List.length_map]
      refine s_ret (ev_op (ev_op (ev_var rfl) (Ev.int_eq (ev_lenT (by walk_at "ev") (ex_t eA hP.hb)) hl) (rv_I (wide_ok (by omega)))) (ev_var rfl) rv_I0) fun H6 e7 => k H6 (eA.trans e7)
/-- the whole course -/
structure CO (K : PySem.W.Frag) (Z : Ad) (H : Hp) (c : Addr) (bs ds ks : List Int) (gain first full : Int) (fm lm : List Int) : Prop where
  sr : ∃ tb td tk, SR K Z H c bs ds ks tb td tk gain first full
  ffm : ∃ tf, FlK K H c Z.c_Course "_first_misses" (.ref tf) ∧ SqL K H tf (fm.map V.int)
  flm : ∃ tl, FlK K H c Z.c_Course "_later_misses" (.ref tl) ∧ SqL K H tl (lm.map V.int)
  lfm : fm.length = bs.length
  llm : lm.length = bs.length
  slm : lm.sum.natAbs ≤ 2 ^ 40
  sb : bs.sum.natAbs ≤ 2 ^ 40
  sd : ds.sum.natAbs ≤ 2 ^ 40
  nf : ∀ m : Str, m ∈ (["stock_at", "sales_on", "sales_before", "find_settled", "sum_settled_round", "loaves_at", "_misses_in", "_count_growing"] : List Str) → NoF H c Z.c_Course m
theorem CO.mono {K : PySem.W.Frag} {Z : Ad} {H H' : Hp} {c : Addr} {bs ds ks : List Int} {gain first full : Int} {fm lm : List Int} (e : Ex H H') (h : CO K Z H c bs ds ks gain first full fm lm) : CO K Z H' c bs ds ks gain first full fm lm :=
  ⟨let ⟨a, b, c, x⟩ := h.sr; ⟨a, b, c, x.mono e⟩, let ⟨a, x, y⟩ := h.ffm; ⟨a, x.mono e, ex_l e y⟩, let ⟨a, x, y⟩ := h.flm; ⟨a, x.mono e, ex_l e y⟩, h.lfm, h.llm, h.slm, h.sb, h.sd, fun m hm => (h.nf m hm).mono e⟩
def longI (bs ds lm : List Int) : List Int := [ds.sum - lm.sum, lm.sum, bs.sum - (ds.sum - lm.sum)]
def sp_sumround (K : PySem.W.Frag) (Z : Ad) : Sp := fun vs H Q _ => ∃ (c : Addr) (bs ds ks : List Int) (gain first full : Int) (fm lm : List Int), vs = [.ref c] ∧ CO K Z H c bs ds ks gain first full fm lm ∧ RetU ((longI bs ds lm).map V.int) H Q
theorem ok_Course_sum_settled_round (T : Txt K mg Z) : FnOk P w K mg base CX0 1 Z.f_Course_sum_settled_round Z.d_Course_sum_settled_round p_Course_sum_settled_round (sp_sumround K Z) := by
  refine T.F_Course_sum_settled_round.ok sc_Course_sum_settled_round (fun vs H Q E h => ?_) (fun cdv Ar outer s H vs Q E hr h => ?_)
  · obtain ⟨c, bs, ds, ks, gain, first, full, fm, lm, rfl, _⟩ := h
    rfl
  · obtain ⟨c, bs, ds, ks, gain, first, full, fm, lm, rfl, hC, k⟩ := h
    obtain ⟨tb, td, tk, hS⟩ := hC.sr
    obtain ⟨tl, fl, hl⟩ := hC.flm
    have hP := hS.pr
    have fd := hP.fd
    refine ⟨_, (pss_cons (ps_set (i := 1) sc_Course_sum_settled_round.nd rfl (Or.inl rfl) (pe_callB (r := rSum K) (cr_sum rfl) (by rfl) T.b_sum boot_sum (pa_cons (pe_fldK K rfl (pv 0) rfl) pa_nil)))
      (pss_cons (ps_set (i := 2) sc_Course_sum_settled_round.nd rfl (Or.inl rfl) (pe_op op_sub (pe_callB (r := rSumT K) (cr_sumT rfl) (by rfl) T.b_sum boot_sum (pa_cons (pe_fldK K rfl (pv 0) rfl) pa_nil)) (pv 1)))
      (pss_one (ps_ret (pe_tup (pa_cons (pv 2) (pa_cons (pv 1) (pa_cons (pe_op op_sub (pe_callB (r := rSumT K) (cr_sumT rfl) (by rfl) T.b_sum boot_sum (pa_cons (pe_fldK K rfl (pv 0) rfl) pa_nil)) (pv 2)) pa_nil)))))))), ?_⟩
    refine q_asg (ev_sumL (by walk_at "ev") hl) fun H1 e1 => ?_
    have fd := hP.fd.mono e1
    refine q_asg (ev_op (ev_sumT (by walk_at "ev") (ex_t e1 hP.hd)) (by walk_at "ev") rv_I0) fun H2 e2 => ?_
    have fb := hP.fb.mono (e1.trans e2)
    refine s_retU (eu_tup (ea_cons (ev_var rfl) (ea_cons (ev_var rfl) (ea_cons (ev_op (ev_sumT (by walk_at "ev") (ex_t (e1.trans e2) hP.hb)) (ev_var rfl) rv_I0) ea_nil))) (by show 3 ≤ 100000; decide)) fun q H3 hq e3 h3 => k q H3 (fresh_back (e1.trans e2) hq) ((e1.trans e2).trans e3) h3
/-- the first so many days -/
def missedI (bs fm lm : List Int) (days : Int) : Int := (fm.take days.toNat).sum + sumRep lm (max 0 (days - (bs.length : Int)))
def totI (bs ds ks : List Int) (gain first full : Int) (fm lm : List Int) (days : Int) : List Int :=
  [sumRep ds days - missedI bs fm lm days, missedI bs fm lm days, sumRep bs days - (sumRep ds days - missedI bs fm lm days) - stockI bs ds ks gain first full days]
def sp_before (K : PySem.W.Frag) (Z : Ad) : Sp := fun vs H Q _ => ∃ (c : Addr) (bs ds ks : List Int) (gain first full : Int) (fm lm : List Int) (days : Int), vs = [.ref c, .int days] ∧ 0 ≤ days ∧ CO K Z H c bs ds ks gain first full fm lm ∧ RetU ((totI bs ds ks gain first full fm lm days).map V.int) H Q
theorem spv_sumrep {K : PySem.W.Frag} {H : Hp} {a : Addr} {am : List Int} {days : Int} (h : SqT K H a (am.map V.int) ∨ SqL K H a (am.map V.int)) (h0 : 0 < am.length) (h1 : am.length ≤ 24) (h2 : am.sum.natAbs ≤ 2 ^ 40) :
    SpV (sp_sum_repeated K) [.ref a, .int days] H (.int (sumRep am days)) := fun _ e _ q _ => ⟨a, am, days, rfl, h.imp (ex_t e) (ex_l e), h0, h1, h2, q⟩
end Sw
namespace Sw
open PySem PySem.Spec PyProof.Rows L2 Evl
local macro_rules | `(tactic| walk_at "ev") => `(tactic| first
  | exact ev_c
  | exact ev_var rfl
  | ((with_reducible show Ev (tCB rMax2 _) _ _ _); exact ev_maxi (by walk_at "ev") (by walk_at "ev"))
  | ((with_reducible show Ev (tCB rMn _) _ _ _); exact ev_min2 (by walk_at "ev") (by walk_at "ev"))
  | ((with_reducible show Ev (tUn _ _) _ _ _); exact ev_un (by walk_at "ev") ru_neg)
  | ((with_reducible show Ev (tFld _ _ _) _ _ _); exact ev_fldK (by walk_at "ev") (by assumption))
  | ((with_reducible show Ev (tOp (rI0 _) _ _) _ _ _); exact ev_op (by walk_at "ev") (by walk_at "ev") rv_I0)
  | ((with_reducible show Ev (tOp rEq _ _) _ _ _); exact ev_op (by walk_at "ev") (by walk_at "ev") (rv_eq rfl))
  | ((with_reducible show Ev (tOp rNe _ _) _ _ _); exact ev_op (by walk_at "ev") (by walk_at "ev") (rv_ne rfl)))

/-! ### what a course is made with -/
def gainOf (bs ds : List Int) : Int := max 0 (bs.sum - ds.sum)
def firstOf (bs ds ks : List Int) : Int := stkAt bs ds ks 0 bs.length
def fullOf (bs ds ks : List Int) : Int := stkAt bs ds ks (ks.getD 0 0 + ds.getD 0 0) bs.length
def fmOf (bs ds ks : List Int) : List Int := missL ds bs (stkL bs ds ks (start1 (gainOf bs ds) (firstOf bs ds ks) (fullOf bs ds ks) 0))
def lmOf (bs ds ks : List Int) : List Int := missL ds bs (stkL bs ds ks (start1 (gainOf bs ds) (firstOf bs ds ks) (fullOf bs ds ks) 1))
theorem sum_bound {xs : List Int} {M : Int} (hM : 0 ≤ M) (h : ∀ x ∈ xs, 0 ≤ x ∧ x ≤ M) : 0 ≤ xs.sum ∧ xs.sum ≤ (xs.length : Int) * M := by
  induction xs with
  | nil => simp
  | cons a r ih =>
    have h1 := h a (by simp)
    have h2 := ih fun x hx => h x (by simp [hx])
    rw [List.sum_cons, List.length_cons]
    have e : ((r.length + 1 : Nat) : Int) * M = (r.length : Int) * M + M := by
      rw [Int.natCast_add, Int.add_mul]; simp
    omega
theorem sum_small {xs : List Int} (hl : xs.length ≤ 24) (h : ∀ x ∈ xs, 0 ≤ x ∧ x ≤ 1000000000) : 0 ≤ xs.sum ∧ xs.sum ≤ 24000000000 := by
  have z := sum_bound (by omega : (0 : Int) ≤ 1000000000) h
  have : (xs.length : Int) * 1000000000 ≤ 24 * 1000000000 := Int.mul_le_mul_of_nonneg_right (by omega) (by omega)
  omega
theorem getD_mem0 {xs : List Int} {i : Nat} (h : ∀ x ∈ xs, 0 ≤ x ∧ x ≤ 1000000000) : 0 ≤ xs.getD i 0 ∧ xs.getD i 0 ≤ 1000000000 := by
  by_cases hi : i < xs.length
  · have e : xs.getD i 0 = xs[i] := by simp [List.getD, hi]
    rw [e]; exact h _ (List.getElem_mem hi)
  · have e : xs.getD i 0 = 0 := by simp [List.getD, List.getElem?_eq_none (Nat.le_of_not_lt hi)]
    rw [e]; omega
theorem keepAt_nn {bs : List Int} {life : Int} {i : Nat} (h : ∀ x ∈ bs, 0 ≤ x ∧ x ≤ 1000000000) : 0 ≤ keepAt bs life i := by
  unfold keepAt
  generalize (life - 1).toNat = m
  induction m with
  | zero => simp
  | succ m ih =>
    rw [List.range_succ, List.map_append, List.sum_append]
    have z := (getD_mem0 (i := ((((i : Int) - (m : Int)) % (bs.length : Int)).toNat)) h).1
    simp at z ih ⊢
    omega
theorem keepL_nn {bs : List Int} {life : Int} (h : ∀ x ∈ bs, 0 ≤ x ∧ x ≤ 1000000000) {i : Nat} : 0 ≤ (keepL bs life).getD i 0 := by
  unfold keepL
  by_cases hi : i < bs.length
  · have e : ((List.range bs.length).map (keepAt bs life)).getD i 0 = keepAt bs life i := by simp [List.getD, List.getElem?_range hi]
    rw [e]; exact keepAt_nn h
  · have e : ((List.range bs.length).map (keepAt bs life)).getD i 0 = 0 := by
      simp [List.getD, List.getElem?_eq_none (show (List.map (keepAt bs life) (List.range bs.length)).length ≤ i by simp; omega)]
    rw [e]; omega
theorem stp_nn {s b d k : Int} (hk : 0 ≤ k) : 0 ≤ stp s b d k := by unfold stp; omega
theorem stkAt_nn {bs ds ks : List Int} {s : Int} (hs : 0 ≤ s) (hk : ∀ i, 0 ≤ ks.getD i 0) (i : Nat) : 0 ≤ stkAt bs ds ks s i := by
  cases i with
  | zero => exact hs
  | succ i => exact stp_nn (hk i)
theorem missL_len {ds bs st : List Int} : (missL ds bs st).length = ds.length := by simp [missL]
theorem missL_small {ds bs st : List Int} (hd : ∀ x ∈ ds, 0 ≤ x ∧ x ≤ 1000000000) (hb : ∀ i, 0 ≤ bs.getD i 0) (hs : ∀ i, i < ds.length → 0 ≤ st.getD i 0) : ∀ x ∈ missL ds bs st, 0 ≤ x ∧ x ≤ 1000000000 := by
  intro x hx
  unfold missL at hx
  obtain ⟨i, hi, rfl⟩ := List.mem_map.mp hx
  have h1 := hb i
  have h2 := hs i (List.mem_range.mp hi)
  have h3 := getD_mem0 (i := i) hd
  omega
theorem start1_nn {gain first full r : Int} (hg : 0 ≤ gain) (hf : 0 ≤ first) (hu : 0 ≤ full) (hr : 0 ≤ r) : 0 ≤ start1 gain first full r := by
  unfold start1
  by_cases h : r = 0
  · rw [if_pos h]; omega
  · rw [if_neg h]
    have : 0 ≤ (r - 1) * gain := Int.mul_nonneg (by omega) hg
    omega
structure CoM (bs ds ks : List Int) : Prop where
  gd : Good bs ds
  kl : ks.length = bs.length
  kn : ∀ i, 0 ≤ ks.getD i 0
theorem CoM.first {bs ds ks : List Int} (h : CoM bs ds ks) : 0 ≤ firstOf bs ds ks := stkAt_nn (by omega) h.kn _
theorem CoM.full {bs ds ks : List Int} (h : CoM bs ds ks) : 0 ≤ fullOf bs ds ks := stkAt_nn (by have := h.kn 0; have := (getD_mem0 (i := 0) h.gd.d0).1; omega) h.kn _
theorem CoM.gainb {bs ds ks : List Int} (h : CoM bs ds ks) : 0 ≤ gainOf bs ds ∧ gainOf bs ds ≤ 24000000000 := by
  have z1 := sum_small h.gd.n1 h.gd.b0
  have z2 := sum_small (by have := h.gd.ld; have := h.gd.n1; omega) h.gd.d0
  unfold gainOf; omega
theorem CoM.miss {bs ds ks : List Int} (h : CoM bs ds ks) {r : Int} (hr : 0 ≤ r) : ∀ x ∈ missL ds bs (stkL bs ds ks (start1 (gainOf bs ds) (firstOf bs ds ks) (fullOf bs ds ks) r)), 0 ≤ x ∧ x ≤ 1000000000 := by
  refine missL_small h.gd.d0 (fun i => (getD_mem0 h.gd.b0).1) fun i hi => ?_
  rw [stkL_get (by have := h.gd.ld; omega)]
  exact stkAt_nn (start1_nn h.gainb.1 h.first h.full hr) h.kn i
/-- from H to S, what is not of M is kept, and what is of M is known -/
structure Go (M : Addr → Prop) (a : Addr) (H S : Hp) : Prop where
  ex : Ex (wn H M) (wn S M)
  kn : ∀ b, M b → S b ≠ none
  al : ∀ b o, H b = some o → b ≠ a → S b = some o
theorem Go.up {M : Addr → Prop} {H H1 : Hp} {a : Addr} {o : HO} (ha : M a) (kn : ∀ b, M b → H b ≠ none) (e : Ex H H1) : Go M a H (upd H1 a o) := by
  refine ⟨(wn_mono e).trans (wn_upd ha), fun b hb q => ?_, fun b u h z => by rw [upd_ne z]; exact e b u h⟩
  by_cases z : b = a
  · rw [z, upd_same] at q; cases q
  · rw [upd_ne z] at q
    cases hh : H b with
    | none => exact kn b hb hh
    | some u => rw [e b u hh] at q; cases q
/-- the finished course of a bakery -/
def CoAt (K : PySem.W.Frag) (Z : Ad) (H : Hp) (c : Addr) (bs ds ks : List Int) : Prop :=
  CO K Z H c bs ds ks (gainOf bs ds) (firstOf bs ds ks) (fullOf bs ds ks) (fmOf bs ds ks) (lmOf bs ds ks)
def sp_Cinit (K : PySem.W.Frag) (Z : Ad) : Sp := fun vs H Q _ => ∃ (x dx tb td : Addr) (bs ds : List Int) (life : Int) (N : Addr → Prop), vs = [.ref x, .ref tb, .ref td, .int life] ∧ H x = some (.ins Z.c_Course dx []) ∧
  SqT K (wn H N) tb (bs.map V.int) ∧ SqT K (wn H N) td (ds.map V.int) ∧ Good bs ds ∧ 1 ≤ life ∧ life ≤ 30 ∧
  (∀ b, N b → H b ≠ none) ∧ ¬ N x ∧ ∀ H', CoAt K Z (wn H' N) x bs ds (keepL bs life) → (∀ b o, H b = some o → b ≠ x → H' b = some o) → Q .non H'
theorem spl_keep {K : PySem.W.Frag} {H : Hp} {a : Addr} {bs : List Int} {life : Int} (h : SqT K H a (bs.map V.int)) (h0 : 0 < bs.length) (h1 : bs.length ≤ 24) (h2 : 1 ≤ life) (h3 : life ≤ 30) :
    SpL (sp_count_keepable K) [.ref a, .int life] H ((keepL bs life).map V.int) := fun _ e _ q _ => ⟨a, bs, life, rfl, ex_t e h, h0, h1, h2, h3, q⟩
theorem keepL_len {bs : List Int} {life : Int} : (keepL bs life).length = bs.length := by simp [keepL]
theorem atI_neg1 {xs : List Int} {n : Nat} (h : xs.length = n + 1) : atI (xs.map V.int) (-1) = some (.int (xs.getD n 0)) := by
  have e : ixN (xs.map V.int).length (-1) = some n := by
    unfold ixN
    rw [List.length_map, h]
    rw [if_neg (by omega), if_pos (by omega)]
    congr 1
    omega
  unfold atI
  rw [e]
  simp [List.getD, h]
theorem flk_of {K : PySem.W.Frag} {S : Hp} {x C dx : Addr} {fs : List (Str × V)} {f : Str} {v : V} (h : S x = some (.ins C dx fs)) (c : Cls K C) (n : NoAttr K C f) (l : fs.lookup f = some v) : FlK K S x C f v := ⟨⟨dx, fs, h, l⟩, c, n⟩
def cf3 (tb td tk : Addr) : List (Str × V) := putF "_keepable" (.ref tk) (putF "_demands" (.ref td) (putF "_bakes" (.ref tb) []))
def cf6 (tb td tk : Addr) (g a b : Int) : List (Str × V) := putF "_full_end" (.int b) (putF "_first_end" (.int a) (putF "_gain" (.int g) (cf3 tb td tk)))
def cf8 (tb td tk tf tl : Addr) (g a b : Int) : List (Str × V) := putF "_later_misses" (.ref tl) (putF "_first_misses" (.ref tf) (cf6 tb td tk g a b))
section
variable {K : PySem.W.Frag} {σ : L2.St} {H : Hp} {ta te : TE} {v : V} {a C dx : Addr} {fs : List (Str × V)} {f : Str} {D : Ends} {tz : TS}
variable {M : Addr → Prop}
/-- self.f = e while self is being made -/
theorem q_self (ha : M a) (kn : ∀ b, M b → H b ≠ none) (h : Ev te σ H v) (ho : ∀ H1, Ex H H1 → Ev ta σ H1 (.ref a)) (hx : H a = some (.ins C dx fs)) (c : Cls K C) (n : NoAttr K C f) (hl : fs.length < 1000)
    (k : ∀ S : Hp, S a = some (.ins C dx (putF f v fs)) → Go M a H S → tz D σ S) : tSeq (sFld K ta te f) tz D σ H := q_fld h ho hx c n hl fun H1 e => k _ upd_same (Go.up ha kn e)
theorem fresh_l {H H1 : Hp} {p : Addr} {xs : List V} {o : HO} (ha : M a) (kn : ∀ b, M b → H b ≠ none) (hp : H p = none) (h1 : H1 p = some (.lst xs)) : SqL K (wn (upd H1 a o) M) p xs := by
  have q : ¬ M p := fun z => kn p z hp
  have nb : p ≠ a := fun z => q (by rw [z]; exact ha)
  exact sq_of (by rw [wn_ni q, upd_ne nb]; exact h1)
theorem fresh_t {H H1 : Hp} {p : Addr} {xs : List V} {o : HO} (ha : M a) (kn : ∀ b, M b → H b ≠ none) (hp : H p = none) (h1 : H1 p = some (.tup xs)) : SqT K (wn (upd H1 a o) M) p xs := by
  have q : ¬ M p := fun z => kn p z hp
  have nb : p ≠ a := fun z => q (by rw [z]; exact ha)
  exact st_of (by rw [wn_ni q, upd_ne nb]; exact h1)
theorem q_selfL {xs : List V} (ha : M a) (kn : ∀ b, M b → H b ≠ none) (h : EvL te σ H xs) (ho : ∀ H1, Ex H H1 → Ev ta σ H1 (.ref a)) (hx : H a = some (.ins C dx fs)) (c : Cls K C) (n : NoAttr K C f) (hl : fs.length < 1000)
    (k : ∀ (p : Addr) (S : Hp), SqL K (wn S M) p xs → S a = some (.ins C dx (putF f (.ref p) fs)) → Go M a H S → tz D σ S) : tSeq (sFld K ta te f) tz D σ H := q_fldL h ho hx c n hl fun p H1 hp e h1 =>
  k p _ (fresh_l ha kn hp h1) upd_same (Go.up ha kn e)
theorem s_selfL {xs : List V} (ha : M a) (kn : ∀ b, M b → H b ≠ none) (h : EvL te σ H xs) (ho : ∀ H1, Ex H H1 → Ev ta σ H1 (.ref a)) (hx : H a = some (.ins C dx fs)) (c : Cls K C) (n : NoAttr K C f) (hl : fs.length < 1000)
    (k : ∀ (p : Addr) (S : Hp), SqL K (wn S M) p xs → S a = some (.ins C dx (putF f (.ref p) fs)) → Go M a H S → D.nx σ S) : sFld K ta te f D σ H := s_fldL h ho hx c n hl fun p H1 hp e h1 =>
  k p _ (fresh_l ha kn hp h1) upd_same (Go.up ha kn e)
theorem q_selfU {xs : List V} (ha : M a) (kn : ∀ b, M b → H b ≠ none) (h : EvU te σ H xs) (ho : ∀ H1, Ex H H1 → Ev ta σ H1 (.ref a)) (hx : H a = some (.ins C dx fs)) (c : Cls K C) (n : NoAttr K C f) (hl : fs.length < 1000)
    (k : ∀ (p : Addr) (S : Hp), SqT K (wn S M) p xs → S a = some (.ins C dx (putF f (.ref p) fs)) → Go M a H S → D.nx σ S) : sFld K ta te f D σ H := s_fldU h ho hx c n hl fun p H1 hp e h1 =>
  k p _ (fresh_t ha kn hp h1) upd_same (Go.up ha kn e)
end
variable {P : Program} {w : World} {K : PySem.W.Frag} {mg : Str → Option Value} {base : Heap} {Z : Ad}
theorem ok_Course___init__ (T : Txt K mg Z) : FnOk P w K mg base CX0 4 Z.f_Course___init__ Z.d_Course___init__ p_Course___init__ (sp_Cinit K Z) := by
  refine T.F_Course___init__.ok sc_Course___init__ (fun vs H Q E h => ?_) (fun cdv Ar outer s H vs Q E hr h => ?_)
  · obtain ⟨x, dx, tb, td, bs, ds, life, N, rfl, _⟩ := h
    rfl
  · obtain ⟨x, dx, tb, td, bs, ds, life, N, rfl, hx, hb, hd, gd, l0, l1, hN, nNx, k⟩ := h
    have hM : nx x N x := .inl rfl
    have cl := T.cl_Course
    have hbw : SqT K (wn H (nx x N)) tb (bs.map V.int) := wn_tx hx hb
    have hdw : SqT K (wn H (nx x N)) td (ds.map V.int) := wn_tx hx hd
    have kn0 : ∀ b, nx x N b → H b ≠ none := fun b z q => z.elim (fun e => by rw [e, hx] at q; cases q) fun e => hN b e q
    refine ⟨_, (pss_cons (ps_fld (pv 0) (pv 1) rfl)
      (pss_cons (ps_fld (pv 0) (pv 2) rfl)
      (pss_cons (ps_fld (pv 0) (pe_call (ok_count_keepable T) (hr.mono (by decide)) (by rfl) T.g_count_keepable T.F_count_keepable.kp T.b_count_keepable .nil pass0 (pa_cons (pv 1) (pa_cons (pv 3) pa_nil))) rfl)
      (pss_cons (ps_fld (pv 0) (pe_callB (r := rMax2) (call_max2 rfl) (by rfl) T.b_max boot_max (pa_cons pe_int (pa_cons (pe_op op_sub (pe_callB (r := rSumT K) (cr_sumT rfl) (by rfl) T.b_sum boot_sum (pa_cons (pv 1) pa_nil)) (pe_callB (r := rSumT K) (cr_sumT rfl) (by rfl) T.b_sum boot_sum (pa_cons (pv 2) pa_nil))) pa_nil))) rfl)
      (pss_cons (ps_fld (pv 0) (pe_ix (r := rIxL K) ix_list (pe_meth (pv 0) T.cl_Course T.m_Course__play_round (ok_Course__play_round T) (hr.mono (by decide)) T.b_Course__play_round .nil pass0 (pa_cons pe_int pa_nil)) (pe_un un_neg pe_int) (fun _ _ => rfl)) rfl)
      (pss_cons (ps_fld (pv 0) (pe_ix (r := rIxL K) ix_list (pe_meth (pv 0) T.cl_Course T.m_Course__play_round (ok_Course__play_round T) (hr.mono (by decide)) T.b_Course__play_round .nil pass0 (pa_cons (pe_op op_add (pe_ix (r := rIxL K) ix_list (pe_fldK K rfl (pv 0) rfl) pe_int (fun _ _ => rfl)) (pe_ix (r := rIxT K) ix_tup (pv 2) pe_int (fun _ _ => rfl))) pa_nil)) (pe_un un_neg pe_int) (fun _ _ => rfl)) rfl)
      (pss_cons (ps_fld (pv 0) (pe_meth (pv 0) T.cl_Course T.m_Course__misses_in (ok_Course__misses_in T) (hr.mono (by decide)) T.b_Course__misses_in .nil pass0 (pa_cons pe_int pa_nil)) rfl)
      (pss_one (ps_fld (pv 0) (pe_meth (pv 0) T.cl_Course T.m_Course__misses_in (ok_Course__misses_in T) (hr.mono (by decide)) T.b_Course__misses_in .nil pass0 (pa_cons pe_int pa_nil)) rfl))))))))), ?_⟩
    -- _bakes, _demands, _keepable
    refine q_self hM kn0 (ev_var rfl) (fun _ _ => ev_var rfl) hx cl T.na_Course__bakes (by decide) fun S1 x1 g1 => ?_
    have w1 := g1.ex
    refine q_self hM g1.kn (ev_var rfl) (fun _ _ => ev_var rfl) x1 cl T.na_Course__demands (by show 1 < 1000; decide) fun S2 x2 g2 => ?_
    have w2 := g2.ex
    refine q_selfL hM g2.kn (el_call (vs := [.ref tb, .int life]) (ea_cons (ev_var rfl) (ea_cons (ev_var rfl) ea_nil)) (spl_keep (ex_t ((w1.trans w2).trans wn_ex) hbw) gd.n0 gd.n1 l0 l1)) (fun _ _ => ev_var rfl) x2 cl T.na_Course__keepable (by show 2 < 1000; decide) fun tk S3 hk3 x3 g3 => ?_
    have w3' := g3.ex
    have w3 := (w1.trans w2).trans w3'
    have m0 : CoM bs ds (keepL bs life) := ⟨gd, keepL_len, fun i => keepL_nn gd.b0⟩
    have sb : ∀ {S : Hp}, Ex (wn S (nx x N)) (wn S N) := wn_sub fun b z => .inr z
    have pr : ∀ {S : Hp} {fs : List (Str × V)}, Ex (wn S3 (nx x N)) (wn S (nx x N)) → S x = some (.ins Z.c_Course dx fs) → fs.lookup ("_bakes" : Str) = some (V.ref tb) → fs.lookup ("_demands" : Str) = some (V.ref td) → fs.lookup ("_keepable" : Str) = some (V.ref tk) → fs.lookup ("_play_round" : Str) = none → PR K Z (wn S N) x bs ds (keepL bs life) tb td tk :=
      fun e hx' l1 l2 l3 l4 => by
        have hx : wn _ N x = _ := (wn_ni nNx).trans hx'
        exact ⟨flk_of hx cl T.na_Course__bakes l1, ex_t sb (ex_t e (ex_t w3 hbw)), flk_of hx cl T.na_Course__demands l2, ex_t sb (ex_t e (ex_t w3 hdw)), flk_of hx cl T.na_Course__keepable l3, ex_l sb (ex_l e hk3), ⟨_, _, hx, l4⟩, gd, keepL_len⟩
    -- _gain
    refine q_self hM g3.kn (v := .int (gainOf bs ds)) (ev_maxi ev_c (ev_op (ev_sumT (ev_var rfl) (ex_t wn_ex (ex_t w3 hbw))) (ev_sumT (ev_var rfl) (ex_t wn_ex (ex_t w3 hdw))) rv_I0)) (fun _ _ => ev_var rfl) x3 cl T.na_Course__gain (by show 3 < 1000; decide) fun S4 x4 g4 => ?_
    have w4 := g4.ex
    have p4 := (pr w4 x4 rfl rfl rfl rfl).mono wn_ex
    -- _first_end
    have n1 : (stkL bs ds (keepL bs life) 0).length = bs.length + 1 := stkL_len
    refine q_self hM g4.kn (v := .int (firstOf bs ds (keepL bs life))) (ev_is (ev_ixNL (el_meth (ev_var rfl) p4.nf (ea_cons ev_c ea_nil) (spl_play (s := 0) p4)) (ev_un ev_c ru_neg) (atI_neg1 n1)) (by rw [stkL_get (Nat.le_refl _)]; rfl)) (fun _ _ => ev_var rfl) x4 cl T.na_Course__first_end (by show 4 < 1000; decide) fun S5 x5 g5 => ?_
    have w5 := g5.ex
    have p5 := (pr (w4.trans w5) x5 rfl rfl rfl rfl).mono wn_ex
    -- _full_end
    have n2 : (stkL bs ds (keepL bs life) ((keepL bs life).getD 0 0 + ds.getD 0 0)).length = bs.length + 1 := stkL_len
    have h0 := gd.n0
    have hld := gd.ld
    have fk5 := p5.fk
    refine q_self hM g5.kn (v := .int (fullOf bs ds (keepL bs life))) (ev_is (ev_ixNL (el_meth (ev_var rfl) p5.nf (ea_cons (ev_op (ev_ixL (by walk_at "ev") p5.hk ev_c (atI_mapI (i := 0) (by omega) (by rw [keepL_len]; omega))) (ev_ixT (ev_var rfl) p5.hd ev_c (atI_mapI (i := 0) (by omega) (by omega))) rv_I0) ea_nil) (spl_play p5)) (ev_un ev_c ru_neg) (atI_neg1 n2)) (by rw [stkL_get (Nat.le_refl _)]; rfl)) (fun _ _ => ev_var rfl) x5 cl T.na_Course__full_end (by show 5 < 1000; decide) fun S6 x6 g6 => ?_
    have w6 := g6.ex
    have w46 := (w4.trans w5).trans w6
    have gb := m0.gainb
    have sr : ∀ {S : Hp} {fs : List (Str × V)}, Ex (wn S6 (nx x N)) (wn S (nx x N)) → S x = some (.ins Z.c_Course dx fs) → fs.lookup ("_bakes" : Str) = some (V.ref tb) → fs.lookup ("_demands" : Str) = some (V.ref td) → fs.lookup ("_keepable" : Str) = some (V.ref tk) → fs.lookup ("_play_round" : Str) = none →
        fs.lookup ("_gain" : Str) = some (V.int (gainOf bs ds)) → fs.lookup ("_first_end" : Str) = some (V.int (firstOf bs ds (keepL bs life))) → fs.lookup ("_full_end" : Str) = some (V.int (fullOf bs ds (keepL bs life))) → fs.lookup ("_stocks_in" : Str) = none → SR K Z (wn S N) x bs ds (keepL bs life) tb td tk (gainOf bs ds) (firstOf bs ds (keepL bs life)) (fullOf bs ds (keepL bs life)) :=
      fun e hx' l1 l2 l3 l4 l5 l6 l7 l8 => by
        have hx : wn _ N x = _ := (wn_ni nNx).trans hx'
        exact ⟨pr (w46.trans e) hx' l1 l2 l3 l4, flk_of hx cl T.na_Course__gain l5, flk_of hx cl T.na_Course__first_end l6, flk_of hx cl T.na_Course__full_end l7, ⟨_, _, hx, l8⟩, by omega⟩
    have s6 := (sr (Ex.refl _) x6 rfl rfl rfl rfl rfl rfl rfl rfl).mono wn_ex
    refine q_selfL hM g6.kn (xs := (fmOf bs ds (keepL bs life)).map V.int) (el_meth (ev_var rfl) ⟨_, _, x6, rfl⟩ (ea_cons ev_c ea_nil) (spl_misses (r := 0) s6)) (fun _ _ => ev_var rfl) x6 cl T.na_Course__first_misses (by show 6 < 1000; decide) fun tf S7 hf7 x7 g7 => ?_
    have w7 := g7.ex
    have s7 := (sr w7 x7 rfl rfl rfl rfl rfl rfl rfl rfl).mono wn_ex
    refine s_selfL hM g7.kn (xs := (lmOf bs ds (keepL bs life)).map V.int) (el_meth (ev_var rfl) ⟨_, _, x7, rfl⟩ (ea_cons ev_c ea_nil) (spl_misses (r := 1) s7)) (fun _ _ => ev_var rfl) x7 cl T.na_Course__later_misses (by show 7 < 1000; decide) fun tl S8 hl8 x8 g8 => ?_
    have w8 := g8.ex
    have s8 := sr (w7.trans w8) x8 rfl rfl rfl rfl rfl rfl rfl rfl
    have ll : (lmOf bs ds (keepL bs life)).length = bs.length := by unfold lmOf; rw [missL_len]; exact hld
    have q1 := sum_small (xs := lmOf bs ds (keepL bs life)) (by rw [ll]; exact gd.n1) (m0.miss (r := 1) (by omega))
    have q2 := sum_small gd.n1 gd.b0
    have q3 := sum_small (by have := gd.n1; omega) gd.d0
    have y8 : wn S8 N x = _ := (wn_ni nNx).trans x8
    refine k S8 ⟨⟨tb, td, tk, s8⟩, ⟨tf, flk_of y8 cl T.na_Course__first_misses rfl, ex_l sb (ex_l w8 hf7)⟩, ⟨tl, flk_of y8 cl T.na_Course__later_misses rfl, ex_l sb hl8⟩, ?_, ll, ?_, by omega, by omega, ?_⟩ fun b o hbo hne => ?_
    · unfold fmOf; rw [missL_len]; exact hld
    · omega
    · intro m hm
      refine ⟨_, _, y8, ?_⟩
      simp only [List.mem_cons, List.not_mem_nil, or_false] at hm
      rcases hm with rfl | rfl | rfl | rfl | rfl | rfl | rfl | rfl <;> rfl
    · exact g8.al b o (g7.al b o (g6.al b o (g5.al b o (g4.al b o (g3.al b o (g2.al b o (g1.al b o hbo hne) hne) hne) hne) hne) hne) hne) hne
end Sw
namespace Sw
/-! ### the mathematics of the stock -/
section
variable {bs ds ks : List Int}
/-- what is gained in the first so many days of a round -/
def dlt (bs ds : List Int) : Nat → Int
  | 0 => 0
  | i + 1 => dlt bs ds i + (bs.getD i 0 - ds.getD i 0)
theorem clamp_step {lo hi z b d k : Int} (h0 : 0 ≤ lo) (h1 : lo ≤ hi) (hk : 0 ≤ k) :
    stp (min hi (max lo z)) b d k = min (stp hi b d k) (max (stp lo b d k) (z + (b - d))) := by
  unfold stp; omega
theorem clamp (h : CoM bs ds ks) (i : Nat) (hi : 0 < i) : ∃ lo hi : Int, 0 ≤ lo ∧ lo ≤ hi ∧ (∀ x, stkAt bs ds ks x i = min hi (max lo (x + dlt bs ds i))) ∧ stkAt bs ds ks (ks.getD 0 0 + ds.getD 0 0) i = hi := by
  induction i with
  | zero => omega
  | succ i ih =>
    have hk := h.kn i
    by_cases hi0 : i = 0
    · subst hi0
      have hb := (getD_mem0 (i := 0) h.gd.b0).1
      refine ⟨0, ks.getD 0 0, Int.le_refl _, hk, fun x => ?_, ?_⟩
      · show stp x _ _ _ = _
        unfold stp dlt dlt
        omega
      · show stp _ _ _ _ = _
        unfold stp
        simp only [stkAt]
        omega
    · obtain ⟨lo, hi', a, b, c, d⟩ := ih (by omega)
      refine ⟨stp lo (bs.getD i 0) (ds.getD i 0) (ks.getD i 0), stp hi' (bs.getD i 0) (ds.getD i 0) (ks.getD i 0), stp_nn hk, by unfold stp; omega, fun x => ?_, ?_⟩
      · show stp (stkAt bs ds ks x i) _ _ _ = _
        rw [c x, clamp_step a b hk]
        have e : x + dlt bs ds i + (bs.getD i 0 - ds.getD i 0) = x + dlt bs ds (i + 1) := by
          show _ = x + (dlt bs ds i + _); omega
        rw [e]
      · show stp (stkAt bs ds ks _ i) _ _ _ = _
        rw [d]
theorem sum_take_succ (xs : List Int) (i : Nat) : (xs.take (i + 1)).sum = (xs.take i).sum + xs.getD i 0 := by
  induction xs generalizing i with
  | nil => simp
  | cons a r ih =>
    cases i with
    | zero => simp
    | succ i =>
      have z := ih i
      simp only [List.take_succ_cons, List.sum_cons, List.getD_cons_succ]
      omega
theorem dlt_sum (i : Nat) : dlt bs ds i = (bs.take i).sum - (ds.take i).sum := by
  induction i with
  | zero => simp [dlt]
  | succ i ih => rw [sum_take_succ, sum_take_succ, dlt, ih]; omega
/-- a round: from the stock at its beginning to the one at its end -/
theorem round_clamp (h : CoM bs ds ks) : ∃ lo : Int, 0 ≤ lo ∧ lo ≤ fullOf bs ds ks ∧ ∀ x, stkAt bs ds ks x bs.length = min (fullOf bs ds ks) (max lo (x + (bs.sum - ds.sum))) := by
  obtain ⟨lo, hi, a, b, c, d⟩ := clamp h bs.length h.gd.n0
  have e : fullOf bs ds ks = hi := d
  have q : dlt bs ds bs.length = bs.sum - ds.sum := by
    rw [dlt_sum, List.take_length, ← h.gd.ld, List.take_length]
  rw [e]
  exact ⟨lo, a, b, fun x => by rw [c x, q]⟩
abbrev st (bs ds ks : List Int) (r : Int) : Int := start1 (gainOf bs ds) (firstOf bs ds ks) (fullOf bs ds ks) r
theorem st_zero : st bs ds ks 0 = 0 := by unfold st start1; rw [if_pos rfl]
theorem st_pos {r : Int} (h : r ≠ 0) : st bs ds ks r = min (fullOf bs ds ks) (firstOf bs ds ks + (r - 1) * gainOf bs ds) := by unfold st start1; rw [if_neg h]
theorem st_step (h : CoM bs ds ks) {r : Int} (hr : 0 ≤ r) : st bs ds ks (r + 1) = stkAt bs ds ks (st bs ds ks r) bs.length := by
  obtain ⟨lo, a, b, c⟩ := round_clamp h
  have hf : firstOf bs ds ks = min (fullOf bs ds ks) (max lo (0 + (bs.sum - ds.sum))) := c 0
  rw [st_pos (by omega)]
  by_cases h0 : r = 0
  · subst h0
    rw [st_zero]
    show _ = firstOf bs ds ks
    have e : ((0 : Int) + 1 - 1) * gainOf bs ds = 0 := by simp
    rw [e]; omega
  · rw [st_pos h0, c]
    have e : (r + 1 - 1) * gainOf bs ds = (r - 1) * gainOf bs ds + gainOf bs ds := by
      have : r + 1 - 1 = (r - 1) + 1 := by omega
      rw [this, Int.add_mul, Int.one_mul]
    rw [e]
    have hg : gainOf bs ds = max 0 (bs.sum - ds.sum) := rfl
    have hp : 0 ≤ (r - 1) * gainOf bs ds := Int.mul_nonneg (by omega) (by omega)
    by_cases hd : bs.sum - ds.sum ≤ 0
    · have g0 : gainOf bs ds = 0 := by omega
      rw [g0, Int.mul_zero]
      omega
    · generalize (r - 1) * gainOf bs ds = t at hp
      omega
/-- the days one by one -/
def dayS (bs ds ks : List Int) : Nat → Int
  | 0 => 0
  | t + 1 => stp (dayS bs ds ks t) (bs.getD (t % bs.length) 0) (ds.getD (t % bs.length) 0) (ks.getD (t % bs.length) 0)
theorem dayS_round (h : CoM bs ds ks) (r : Nat) : ∀ i, i ≤ bs.length → dayS bs ds ks (r * bs.length + i) = stkAt bs ds ks (st bs ds ks (r : Int)) i := by
  have hn := h.gd.n0
  induction r with
  | zero =>
    intro i hi
    rw [show ((0 : Nat) : Int) = 0 from rfl, st_zero]
    induction i with
    | zero => simp [dayS, stkAt]
    | succ i ih =>
      have e : (0 * bs.length + i) % bs.length = i := by rw [Nat.zero_mul, Nat.zero_add, Nat.mod_eq_of_lt (by omega)]
      rw [show 0 * bs.length + (i + 1) = (0 * bs.length + i) + 1 by omega]
      show stp (dayS bs ds ks (0 * bs.length + i)) _ _ _ = stp (stkAt bs ds ks 0 i) _ _ _
      rw [e, ih (by omega)]
  | succ r ihr =>
    intro i hi
    induction i with
    | zero =>
      have z := ihr bs.length (Nat.le_refl _)
      rw [← st_step h (by omega)] at z
      rw [show (r + 1) * bs.length + 0 = r * bs.length + bs.length by rw [Nat.add_mul, Nat.one_mul]; omega, z]
      show st bs ds ks ((r : Int) + 1) = st bs ds ks (((r + 1 : Nat)) : Int)
      congr 1
    | succ i ih =>
      have e : ((r + 1) * bs.length + i) % bs.length = i := by rw [Nat.mul_comm, Nat.mul_add_mod, Nat.mod_eq_of_lt (by omega)]
      rw [show (r + 1) * bs.length + (i + 1) = ((r + 1) * bs.length + i) + 1 by omega]
      show stp (dayS bs ds ks ((r + 1) * bs.length + i)) _ _ _ = stp (stkAt bs ds ks _ i) _ _ _
      rw [e, ih (by omega)]
theorem day_split (t n : Nat) (hn : 0 < n) : ((t : Int) / (n : Int)) = ((t / n : Nat) : Int) ∧ ((t : Int) % (n : Int)).toNat = t % n := by
  constructor
  · exact (Int.natCast_ediv t n).symm
  · have := Int.natCast_emod t n; omega
theorem stock_is (h : CoM bs ds ks) (t : Nat) : stockI bs ds ks (gainOf bs ds) (firstOf bs ds ks) (fullOf bs ds ks) (t : Int) = dayS bs ds ks t := by
  have hn := h.gd.n0
  obtain ⟨e1, e2⟩ := day_split t bs.length hn
  unfold stockI
  rw [e1, e2]
  have z := dayS_round h (t / bs.length) (t % bs.length) (Nat.le_of_lt (Nat.mod_lt _ hn))
  rw [show t / bs.length * bs.length + t % bs.length = t by rw [Nat.mul_comm]; exact Nat.div_add_mod _ _] at z
  exact z.symm
theorem end_is (h : CoM bs ds ks) (t : Nat) : endI bs ds ks (gainOf bs ds) (firstOf bs ds ks) (fullOf bs ds ks) (t : Int) = dayS bs ds ks (t + 1) := by
  have hn := h.gd.n0
  obtain ⟨e1, e2⟩ := day_split t bs.length hn
  unfold endI
  rw [e1, e2]
  have z := dayS_round h (t / bs.length) (t % bs.length + 1) (Nat.mod_lt _ hn)
  rw [show t / bs.length * bs.length + (t % bs.length + 1) = t + 1 by have := Nat.div_add_mod t bs.length; rw [Nat.mul_comm]; omega] at z
  exact z.symm
theorem dayS_nn (h : CoM bs ds ks) (t : Nat) : 0 ≤ dayS bs ds ks t := by
  cases t with
  | zero => exact Int.le_refl _
  | succ t => exact stp_nn (h.kn _)
/-- the stock is never less than a round before -/
theorem dayS_le (h : CoM bs ds ks) (t : Nat) : dayS bs ds ks t ≤ dayS bs ds ks (t + bs.length) := by
  induction t with
  | zero => exact dayS_nn h _
  | succ t ih =>
    rw [show t + 1 + bs.length = (t + bs.length) + 1 by omega]
    show stp _ _ _ _ ≤ stp _ _ _ _
    rw [Nat.add_mod_right]
    unfold stp; omega
theorem dayS_same {t : Nat} (e : dayS bs ds ks t = dayS bs ds ks (t + bs.length)) (u : Nat) : dayS bs ds ks (t + u) = dayS bs ds ks (t + u + bs.length) := by
  induction u with
  | zero => exact e
  | succ u ih =>
    rw [show t + (u + 1) + bs.length = (t + u + bs.length) + 1 by omega, show t + (u + 1) = (t + u) + 1 by omega]
    show stp _ _ _ _ = stp _ _ _ _
    rw [Nat.add_mod_right, ih]
/-! ### the settled day -/
theorem least {p : Nat → Prop} : ∀ n, p n → ∃ m, m ≤ n ∧ p m ∧ ∀ j, j < m → ¬ p j := by
  intro n
  induction n using Nat.strongRecOn with
  | ind n ih =>
    intro hp
    by_cases q : ∃ j, j < n ∧ p j
    · obtain ⟨j, hj, hpj⟩ := q
      obtain ⟨m, a, b, c⟩ := ih j hj hpj
      exact ⟨m, by omega, b, c⟩
    · exact ⟨n, Nat.le_refl _, hp, fun j hj hpj => q ⟨j, hj, hpj⟩⟩
abbrev grw (bs ds ks : List Int) : Int := growing (gainOf bs ds) (firstOf bs ds ks) (fullOf bs ds ks)
theorem first_le (h : CoM bs ds ks) : firstOf bs ds ks ≤ fullOf bs ds ks := by
  obtain ⟨lo, a, b, c⟩ := round_clamp h
  have hf : firstOf bs ds ks = min (fullOf bs ds ks) (max lo (0 + (bs.sum - ds.sum))) := c 0
  omega
/-- how the growing rounds are counted -/
theorem grw_props (h : CoM bs ds ks) : 0 ≤ grw bs ds ks ∧ fullOf bs ds ks ≤ firstOf bs ds ks + grw bs ds ks * gainOf bs ds ∨ gainOf bs ds = 0 ∧ grw bs ds ks = 0 := by
  have hg := h.gainb.1
  have hl := first_le h
  by_cases g0 : gainOf bs ds = 0
  · exact .inr ⟨g0, by unfold grw growing; rw [if_pos g0]⟩
  · left
    have gp : 0 < gainOf bs ds := by omega
    unfold grw growing
    rw [if_neg g0]
    have e := Int.ediv_mul_le (firstOf bs ds ks - fullOf bs ds ks) g0
    have q : (firstOf bs ds ks - fullOf bs ds ks) / gainOf bs ds ≤ 0 := by
      have := Int.ediv_le_ediv gp (show firstOf bs ds ks - fullOf bs ds ks ≤ 0 by omega)
      simpa using this
    rw [Int.neg_mul]
    omega
theorem grw_nn (h : CoM bs ds ks) : 0 ≤ grw bs ds ks := by
  rcases grw_props h with z | z <;> omega
theorem grw_end (h : CoM bs ds ks) : st bs ds ks (grw bs ds ks + 1) = st bs ds ks (grw bs ds ks + 2) := by
  have hn := grw_nn h
  rw [st_pos (by omega), st_pos (by omega)]
  rw [show grw bs ds ks + 1 - 1 = grw bs ds ks by omega, show grw bs ds ks + 2 - 1 = grw bs ds ks + 1 by omega, Int.add_mul, Int.one_mul]
  have hg := h.gainb.1
  rcases grw_props h with z | z
  · generalize grw bs ds ks * gainOf bs ds = t at z ⊢
    omega
  · rw [z.1]; simp
theorem set_ex (h : CoM bs ds ks) : ∃ i, SetAt bs ds ks (gainOf bs ds) (firstOf bs ds ks) (fullOf bs ds ks) i := by
  have hn := grw_nn h
  have e : stkAt bs ds ks (st bs ds ks (grw bs ds ks)) bs.length = stkAt bs ds ks (st bs ds ks (grw bs ds ks + 1)) bs.length := by
    rw [← st_step h hn, ← st_step h (by omega)]
    rw [show grw bs ds ks + 1 + 1 = grw bs ds ks + 2 by omega]
    exact grw_end h
  obtain ⟨m, a, b, c⟩ := least (p := fun i => stkAt bs ds ks (st bs ds ks (grw bs ds ks)) i = stkAt bs ds ks (st bs ds ks (grw bs ds ks + 1)) i) bs.length e
  exact ⟨m, a, b, c⟩
end
end Sw
namespace Sw
section
variable {bs ds ks : List Int}
/-! ### from the settled day on -/
theorem settled_same (h : CoM bs ds ks) {i : Nat} (hi : SetAt bs ds ks (gainOf bs ds) (firstOf bs ds ks) (fullOf bs ds ks) i) {t : Nat} (ht : grw bs ds ks * (bs.length : Int) + (i : Int) ≤ (t : Int)) :
    dayS bs ds ks t = dayS bs ds ks (t + bs.length) := by
  have hn := grw_nn h
  obtain ⟨R, hR⟩ : ∃ R : Nat, grw bs ds ks = (R : Int) := ⟨(grw bs ds ks).toNat, by omega⟩
  obtain ⟨a, b, c⟩ := hi
  change stkAt bs ds ks (st bs ds ks (grw bs ds ks)) i = stkAt bs ds ks (st bs ds ks (grw bs ds ks + 1)) i at b
  rw [hR] at b ht
  rw [← dayS_round h R i a, show ((R : Int) + 1) = ((R + 1 : Nat) : Int) by omega, ← dayS_round h (R + 1) i a, show (R + 1) * bs.length + i = R * bs.length + i + bs.length by rw [Nat.add_mul, Nat.one_mul]; omega] at b
  have e : (R : Int) * (bs.length : Int) = ((R * bs.length : Nat) : Int) := by rw [Int.natCast_mul]
  rw [e] at ht
  obtain ⟨u, rfl⟩ : ∃ u, t = R * bs.length + i + u := ⟨t - (R * bs.length + i), by omega⟩
  exact dayS_same b u
theorem settled_least (h : CoM bs ds ks) {i : Nat} (hi : SetAt bs ds ks (gainOf bs ds) (firstOf bs ds ks) (fullOf bs ds ks) i) {t : Nat} (ht : grw bs ds ks * (bs.length : Int) + (i : Int) = (t : Int) + 1) :
    dayS bs ds ks t ≠ dayS bs ds ks (t + bs.length) := by
  have hn := grw_nn h
  obtain ⟨R, hR⟩ : ∃ R : Nat, grw bs ds ks = (R : Int) := ⟨(grw bs ds ks).toNat, by omega⟩
  obtain ⟨a, b, c⟩ := hi
  change stkAt bs ds ks (st bs ds ks (grw bs ds ks)) i = stkAt bs ds ks (st bs ds ks (grw bs ds ks + 1)) i at b
  have e : (R : Int) * (bs.length : Int) = ((R * bs.length : Nat) : Int) := by rw [Int.natCast_mul]
  rw [hR, e] at ht
  cases i with
  | succ i =>
    have q := c i (Nat.lt_succ_self i)
    change stkAt bs ds ks (st bs ds ks (grw bs ds ks)) i ≠ stkAt bs ds ks (st bs ds ks (grw bs ds ks + 1)) i at q
    rw [hR, ← dayS_round h R i (by omega), show ((R : Int) + 1) = ((R + 1 : Nat) : Int) by omega, ← dayS_round h (R + 1) i (by omega), show (R + 1) * bs.length + i = R * bs.length + i + bs.length by rw [Nat.add_mul, Nat.one_mul]; omega] at q
    rwa [show t = R * bs.length + i by omega]
  | zero =>
    exfalso
    have b' : st bs ds ks (grw bs ds ks) = st bs ds ks (grw bs ds ks + 1) := b
    have hg := h.gainb.1
    have hl := first_le h
    have hR0 : R ≠ 0 := by
      intro z; subst z
      simp at ht; omega
    have g0 : ¬ gainOf bs ds = 0 := by
      intro z
      have : grw bs ds ks = 0 := by unfold grw growing; rw [if_pos z]
      omega
    have gp : 0 < gainOf bs ds := by omega
    rw [st_pos (by omega), st_pos (by omega), show grw bs ds ks + 1 - 1 = grw bs ds ks by omega, Int.sub_mul, Int.one_mul] at b'
    have ee : grw bs ds ks = -((firstOf bs ds ks - fullOf bs ds ks) / gainOf bs ds) := by unfold grw growing; rw [if_neg g0]
    have q1 := Int.lt_ediv_add_one_mul_self (firstOf bs ds ks - fullOf bs ds ks) gp
    have q2 : grw bs ds ks * gainOf bs ds = -((firstOf bs ds ks - fullOf bs ds ks) / gainOf bs ds * gainOf bs ds) := by rw [ee, Int.neg_mul]
    rw [Int.add_mul, Int.one_mul] at q1
    rcases grw_props h with z | z
    · generalize grw bs ds ks * gainOf bs ds = t1 at *
      generalize (firstOf bs ds ks - fullOf bs ds ks) / gainOf bs ds * gainOf bs ds = t2 at *
      omega
    · omega
/-! ### sums over days -/
def psum (f : Nat → Int) : Nat → Int
  | 0 => 0
  | t + 1 => psum f t + f t
theorem psum_add (f : Nat → Int) (a b : Nat) : psum f (a + b) = psum f a + psum (fun j => f (a + j)) b := by
  induction b with
  | zero => simp [psum]
  | succ b ih =>
    show psum f (a + b) + f (a + b) = _
    rw [ih]
    show _ = psum f a + (psum (fun j => f (a + j)) b + f (a + b))
    omega
theorem psum_congr {f g : Nat → Int} {n : Nat} (h : ∀ j, j < n → f j = g j) : psum f n = psum g n := by
  induction n with
  | zero => rfl
  | succ n ih =>
    show psum f n + f n = psum g n + g n
    rw [ih fun j hj => h j (by omega), h n (by omega)]
theorem psum_zero (n : Nat) : psum (fun _ => 0) n = 0 := by
  induction n with
  | zero => rfl
  | succ n ih => show psum _ n + 0 = 0; rw [ih]; rfl
theorem psum_sub (f g : Nat → Int) (n : Nat) : psum (fun j => f j - g j) n = psum f n - psum g n := by
  induction n with
  | zero => simp [psum]
  | succ n ih => show psum _ n + (f n - g n) = psum f n + f n - (psum g n + g n); rw [ih]; omega
theorem psum_take (xs : List Int) : ∀ n, (xs.take n).sum = psum (fun j => xs.getD j 0) n := by
  intro n
  induction n with
  | zero => simp [psum]
  | succ n ih => rw [sum_take_succ, ih]; rfl
theorem psum_sum (xs : List Int) : psum (fun j => xs.getD j 0) xs.length = xs.sum := by rw [← psum_take, List.take_length]
/-- a function that repeats after n, summed up over windows of n -/
theorem window {f : Nat → Int} {n a : Nat} (hf : ∀ t, a ≤ t → f (t + n) = f t) (u : Nat) : psum (fun j => f (a + u + j)) n = psum (fun j => f (a + j)) n := by
  induction u with
  | zero => rfl
  | succ u ih =>
    have e1 := psum_add (fun j => f (a + u + j)) 1 n
    have e2 := psum_add (fun j => f (a + u + j)) n 1
    rw [Nat.add_comm 1 n] at e1
    have e3 : psum (fun j => f (a + u + j)) 1 = f (a + u) := by show 0 + f (a + u + 0) = _; simp
    have e4 : psum (fun j => f (a + u + (n + j))) 1 = f (a + u + n) := by show 0 + f (a + u + (n + 0)) = _; simp
    have e5 : psum (fun j => f (a + u + (1 + j))) n = psum (fun j => f (a + (u + 1) + j)) n := psum_congr fun j _ => by congr 1; omega
    have e6 := hf (a + u) (by omega)
    rw [e3, e5] at e1
    rw [e4] at e2
    omega
theorem rounds_psum {f : Nat → Int} {n a : Nat} (hf : ∀ t, a ≤ t → f (t + n) = f t) (T : Nat) : psum f (a + T * n) = psum f a + (T : Int) * psum (fun j => f (a + j)) n := by
  induction T with
  | zero => simp
  | succ T ih =>
    rw [show a + (T + 1) * n = (a + T * n) + n by rw [Nat.add_mul, Nat.one_mul]; omega, psum_add, ih]
    have := window hf (T * n)
    rw [this]
    have : ((T + 1 : Nat) : Int) = (T : Int) + 1 := by omega
    rw [this, Int.add_mul, Int.one_mul]
    omega
theorem sumRep_psum (am : List Int) (h : 0 < am.length) (m : Nat) : sumRep am (m : Int) = psum (fun j => am.getD (j % am.length) 0) m := by
  obtain ⟨e1, e2⟩ := day_split m am.length h
  unfold sumRep
  rw [e1, e2]
  have hp : ∀ t, 0 ≤ t → (fun j => am.getD (j % am.length) 0) (t + am.length) = (fun j => am.getD (j % am.length) 0) t := fun t _ => by simp [Nat.add_mod_right]
  have z := rounds_psum (f := fun j => am.getD (j % am.length) 0) (n := am.length) (a := 0) hp (m / am.length)
  have e : m = (0 + m / am.length * am.length) + m % am.length := by have := Nat.div_add_mod m am.length; rw [Nat.mul_comm] at this; omega
  have w : psum (fun j => am.getD (j % am.length) 0) m = psum (fun j => am.getD (j % am.length) 0) (0 + m / am.length * am.length) + psum (fun j => (fun j => am.getD (j % am.length) 0) (0 + m / am.length * am.length + j)) (m % am.length) := by
    rw [← psum_add, ← e]
  rw [w, z]
  have q1 : psum (fun j => (fun j => am.getD (j % am.length) 0) (0 + j)) am.length = am.sum := by
    rw [← psum_sum]
    exact psum_congr fun j hj => by simp [Nat.mod_eq_of_lt hj]
  have q2 : psum (fun j => (fun j => am.getD (j % am.length) 0) (0 + m / am.length * am.length + j)) (m % am.length) = (am.take (m % am.length)).sum := by
    rw [psum_take]
    refine psum_congr fun j hj => ?_
    have hlt := Nat.mod_lt m h
    show am.getD ((0 + m / am.length * am.length + j) % am.length) 0 = _
    rw [Nat.zero_add, Nat.mul_comm, Nat.mul_add_mod, Nat.mod_eq_of_lt (by omega)]
  rw [q1, q2]
  show _ = 0 + _ + _
  omega
/-! ### a day's sales -/
def bk (bs : List Int) (t : Nat) : Int := bs.getD (t % bs.length) 0
def dm (bs ds : List Int) (t : Nat) : Int := ds.getD (t % bs.length) 0
def misS (bs ds ks : List Int) (t : Nat) : Int := max 0 (dm bs ds t - dayS bs ds ks t - bk bs t)
def solS (bs ds ks : List Int) (t : Nat) : Int := dm bs ds t - misS bs ds ks t
def thrS (bs ds ks : List Int) (t : Nat) : Int := bk bs t - solS bs ds ks t - (dayS bs ds ks (t + 1) - dayS bs ds ks t)
theorem sales_is (h : CoM bs ds ks) (t : Nat) : salesI bs ds ks (gainOf bs ds) (firstOf bs ds ks) (fullOf bs ds ks) (t : Int) = [solS bs ds ks t, misS bs ds ks t, thrS bs ds ks t] := by
  have hn := h.gd.n0
  obtain ⟨e1, e2⟩ := day_split t bs.length hn
  have es : soldI bs ds ks (gainOf bs ds) (firstOf bs ds ks) (fullOf bs ds ks) (t : Int) = solS bs ds ks t := by
    unfold soldI
    rw [stock_is h, e2]
    unfold solS misS dm bk
    omega
  unfold salesI
  rw [es, stock_is h, end_is h, e2]
  unfold thrS
  congr 1
  congr 1
  · unfold solS dm; omega
  · congr 1
    unfold bk
    omega
theorem misS_le (h : CoM bs ds ks) (t : Nat) : misS bs ds ks (t + bs.length) ≤ misS bs ds ks t := by
  have z := dayS_le h t
  unfold misS dm bk
  rw [Nat.add_mod_right]
  omega
/-- behind the first round each round misses the same -/
theorem misS_round (h : CoM bs ds ks) {t : Nat} (ht : bs.length ≤ t) : misS bs ds ks (t + bs.length) = misS bs ds ks t := by
  have z := misS_le h t
  have m0 : 0 ≤ misS bs ds ks (t + bs.length) := by unfold misS; omega
  by_cases hm : misS bs ds ks t ≤ 0
  · omega
  · obtain ⟨u, rfl⟩ : ∃ u, t = u + bs.length := ⟨t - bs.length, by omega⟩
    have e1 : dayS bs ds ks (u + bs.length + 1) = 0 := by
      show stp _ _ _ _ = 0
      have := h.kn ((u + bs.length) % bs.length)
      unfold misS dm bk at hm
      unfold stp
      omega
    have e2 := dayS_le h (u + 1)
    have e3 := dayS_nn h (u + 1)
    rw [show u + 1 + bs.length = u + bs.length + 1 by omega, e1] at e2
    have e4 : dayS bs ds ks (u + 1) = dayS bs ds ks (u + 1 + bs.length) := by rw [show u + 1 + bs.length = u + bs.length + 1 by omega, e1]; omega
    have hn := h.gd.n0
    have e5 := dayS_same e4 (bs.length - 1)
    rw [show u + 1 + (bs.length - 1) = u + bs.length by omega] at e5
    unfold misS dm bk
    rw [Nat.add_mod_right, ← e5]
theorem fm_get (h : CoM bs ds ks) {j : Nat} (hj : j < bs.length) : (fmOf bs ds ks).getD j 0 = misS bs ds ks j := by
  unfold fmOf missL
  have hl := h.gd.ld
  have e : ((List.range ds.length).map fun i => max 0 (ds.getD i 0 - (stkL bs ds ks (start1 (gainOf bs ds) (firstOf bs ds ks) (fullOf bs ds ks) 0)).getD i 0 - bs.getD i 0)).getD j 0 =
      max 0 (ds.getD j 0 - (stkL bs ds ks (start1 (gainOf bs ds) (firstOf bs ds ks) (fullOf bs ds ks) 0)).getD j 0 - bs.getD j 0) := by
    simp [List.getD, List.getElem?_range (show j < ds.length by omega)]
  rw [e, stkL_get (by omega)]
  have q := dayS_round h 0 j (by omega)
  rw [Nat.zero_mul, Nat.zero_add] at q
  have q' : stkAt bs ds ks (start1 (gainOf bs ds) (firstOf bs ds ks) (fullOf bs ds ks) 0) j = dayS bs ds ks j := q.symm
  rw [q']
  unfold misS dm bk
  rw [Nat.mod_eq_of_lt hj]
theorem lm_get (h : CoM bs ds ks) {j : Nat} (hj : j < bs.length) : (lmOf bs ds ks).getD j 0 = misS bs ds ks (bs.length + j) := by
  unfold lmOf missL
  have hl := h.gd.ld
  have e : ((List.range ds.length).map fun i => max 0 (ds.getD i 0 - (stkL bs ds ks (start1 (gainOf bs ds) (firstOf bs ds ks) (fullOf bs ds ks) 1)).getD i 0 - bs.getD i 0)).getD j 0 =
      max 0 (ds.getD j 0 - (stkL bs ds ks (start1 (gainOf bs ds) (firstOf bs ds ks) (fullOf bs ds ks) 1)).getD j 0 - bs.getD j 0) := by
    simp [List.getD, List.getElem?_range (show j < ds.length by omega)]
  rw [e, stkL_get (by omega)]
  have q := dayS_round h 1 j (by omega)
  rw [Nat.one_mul] at q
  have q' : stkAt bs ds ks (start1 (gainOf bs ds) (firstOf bs ds ks) (fullOf bs ds ks) 1) j = dayS bs ds ks (bs.length + j) := q.symm
  rw [q']
  unfold misS dm bk
  rw [Nat.add_mod_left, Nat.mod_eq_of_lt hj]
theorem fm_len (h : CoM bs ds ks) : (fmOf bs ds ks).length = bs.length := by unfold fmOf; rw [missL_len]; exact h.gd.ld
theorem lm_len (h : CoM bs ds ks) : (lmOf bs ds ks).length = bs.length := by unfold lmOf; rw [missL_len]; exact h.gd.ld
theorem lm_sum (h : CoM bs ds ks) : (lmOf bs ds ks).sum = psum (fun j => misS bs ds ks (bs.length + j)) bs.length := by
  rw [← psum_sum, lm_len h]
  exact psum_congr fun j hj => lm_get h hj
theorem missed_is (h : CoM bs ds ks) (t : Nat) : missedI bs (fmOf bs ds ks) (lmOf bs ds ks) (t : Int) = psum (misS bs ds ks) t := by
  have hn := h.gd.n0
  unfold missedI
  rw [Int.toNat_natCast, psum_take]
  by_cases ht : t ≤ bs.length
  · have e : max 0 ((t : Int) - (bs.length : Int)) = ((0 : Nat) : Int) := by omega
    rw [e, sumRep_psum _ (by rw [lm_len h]; exact hn)]
    show _ + 0 = _
    rw [Int.add_zero]
    exact psum_congr fun j hj => fm_get h (by omega)
  · obtain ⟨u, rfl⟩ : ∃ u, t = bs.length + u := ⟨t - bs.length, by omega⟩
    have e : max 0 (((bs.length + u : Nat) : Int) - (bs.length : Int)) = (u : Int) := by omega
    rw [e, sumRep_psum _ (by rw [lm_len h]; exact hn), psum_add, psum_add]
    have z1 : psum (fun j => (fmOf bs ds ks).getD j 0) bs.length = psum (misS bs ds ks) bs.length := psum_congr fun j hj => fm_get h hj
    have z2 : psum (fun j => (fmOf bs ds ks).getD (bs.length + j) 0) u = 0 := by
      have : psum (fun j => (fmOf bs ds ks).getD (bs.length + j) 0) u = psum (fun _ => 0) u := psum_congr fun j _ => by
        simp [List.getD, List.getElem?_eq_none (show (fmOf bs ds ks).length ≤ bs.length + j by rw [fm_len h]; omega)]
      rw [this, psum_zero]
    have z3 : psum (fun j => (lmOf bs ds ks).getD (j % (lmOf bs ds ks).length) 0) u = psum (fun j => misS bs ds ks (bs.length + j)) u := by
      refine psum_congr fun j _ => ?_
      rw [lm_len h, lm_get h (Nat.mod_lt _ hn)]
      have q : ∀ k r, misS bs ds ks (bs.length + (r + k * bs.length)) = misS bs ds ks (bs.length + r) := by
        intro k r
        induction k with
        | zero => simp
        | succ k ih =>
          rw [show bs.length + (r + (k + 1) * bs.length) = bs.length + (r + k * bs.length) + bs.length by rw [Nat.add_mul, Nat.one_mul]; omega, misS_round h (by omega), ih]
      have w := q (j / bs.length) (j % bs.length)
      rw [show j % bs.length + j / bs.length * bs.length = j by rw [Nat.mul_comm]; exact Nat.mod_add_div _ _] at w
      exact w.symm
    rw [z1, z2, z3]; omega
theorem bk_sum (h : CoM bs ds ks) (t : Nat) : sumRep bs (t : Int) = psum (bk bs) t := sumRep_psum bs h.gd.n0 t
theorem dm_sum (h : CoM bs ds ks) (t : Nat) : sumRep ds (t : Int) = psum (dm bs ds) t := by
  rw [sumRep_psum ds (by have := h.gd.n0; have := h.gd.ld; omega) t]
  exact psum_congr fun j _ => by unfold dm; rw [h.gd.ld]
theorem thr_sum (t : Nat) : psum (thrS bs ds ks) t = psum (bk bs) t - psum (solS bs ds ks) t - dayS bs ds ks t := by
  induction t with
  | zero => simp [psum, dayS]
  | succ t ih => show psum _ t + thrS bs ds ks t = (psum _ t + bk bs t) - (psum _ t + solS bs ds ks t) - _; rw [ih]; unfold thrS; omega
/-- totals are the sums of the days -/
theorem tot_is (h : CoM bs ds ks) (t : Nat) : totI bs ds ks (gainOf bs ds) (firstOf bs ds ks) (fullOf bs ds ks) (fmOf bs ds ks) (lmOf bs ds ks) (t : Int) =
    [psum (solS bs ds ks) t, psum (misS bs ds ks) t, psum (thrS bs ds ks) t] := by
  have e : psum (solS bs ds ks) t = psum (dm bs ds) t - psum (misS bs ds ks) t := psum_sub _ _ _
  unfold totI
  rw [missed_is h, dm_sum h, bk_sum h, stock_is h, thr_sum, e]
/-! ### the long run -/
theorem long_is (h : CoM bs ds ks) {D : Nat} (hD : ∀ t, D ≤ t → dayS bs ds ks t = dayS bs ds ks (t + bs.length)) :
    longI bs ds (lmOf bs ds ks) = [psum (fun j => solS bs ds ks (D + j)) bs.length, psum (fun j => misS bs ds ks (D + j)) bs.length, psum (fun j => thrS bs ds ks (D + j)) bs.length] := by
  have hmD : ∀ t, D ≤ t → misS bs ds ks (t + bs.length) = misS bs ds ks t := fun t ht => by
    unfold misS dm bk; rw [Nat.add_mod_right, ← hD t ht]
  have hmN : ∀ t, bs.length ≤ t → misS bs ds ks (t + bs.length) = misS bs ds ks t := fun t ht => misS_round h ht
  have m1 := window hmD bs.length
  have m2 := window hmN D
  rw [Nat.add_comm D] at m1
  have em : psum (fun j => misS bs ds ks (D + j)) bs.length = (lmOf bs ds ks).sum := by rw [lm_sum h, ← m1, ← m2]
  have hb : ∀ t, 0 ≤ t → bk bs (t + bs.length) = bk bs t := fun t _ => by unfold bk; rw [Nat.add_mod_right]
  have hd : ∀ t, 0 ≤ t → dm bs ds (t + bs.length) = dm bs ds t := fun t _ => by unfold dm; rw [Nat.add_mod_right]
  have b1 := window (n := bs.length) (a := 0) hb D
  have d1 := window (n := bs.length) (a := 0) hd D
  simp only [Nat.zero_add] at b1 d1
  have b2 : psum (fun j => bk bs j) bs.length = bs.sum := by rw [← psum_sum]; exact psum_congr fun j hj => by unfold bk; rw [Nat.mod_eq_of_lt hj]
  have d2 : psum (fun j => dm bs ds j) bs.length = ds.sum := by
    rw [← psum_sum, h.gd.ld]; exact psum_congr fun j hj => by unfold dm; rw [Nat.mod_eq_of_lt hj]
  have es : psum (fun j => solS bs ds ks (D + j)) bs.length = ds.sum - (lmOf bs ds ks).sum := by
    have : psum (fun j => solS bs ds ks (D + j)) bs.length = psum (fun j => dm bs ds (D + j)) bs.length - psum (fun j => misS bs ds ks (D + j)) bs.length := psum_sub _ _ _
    rw [this, em, d1, d2]
  have et : psum (fun j => thrS bs ds ks (D + j)) bs.length = bs.sum - (ds.sum - (lmOf bs ds ks).sum) := by
    have t1 := psum_add (thrS bs ds ks) D bs.length
    rw [thr_sum, thr_sum, psum_add, psum_add] at t1
    rw [← hD D (Nat.le_refl _), es, b1, b2] at t1
    omega
  unfold longI
  rw [em, es, et]
end
end Sw
namespace Sw
open PySem PySem.Spec PyProof.Rows L2 Evl
local macro_rules | `(tactic| walk_at "ev") => `(tactic| first
  | exact ev_c
  | exact ev_var rfl
  | ((with_reducible show Ev (tCB rMax2 _) _ _ _); exact ev_maxi (by walk_at "ev") (by walk_at "ev"))
  | ((with_reducible show Ev (tCB rMn _) _ _ _); exact ev_min2 (by walk_at "ev") (by walk_at "ev"))
  | ((with_reducible show Ev (tUn _ _) _ _ _); exact ev_un (by walk_at "ev") ru_neg)
  | ((with_reducible show Ev (tFld _ _ _) _ _ _); exact ev_fldK (by walk_at "ev") (by assumption))
  | ((with_reducible show Ev (tOp (rI0 _) _ _) _ _ _); exact ev_op (by walk_at "ev") (by walk_at "ev") rv_I0)
  | ((with_reducible show Ev (tOp rEq _ _) _ _ _); exact ev_op (by walk_at "ev") (by walk_at "ev") (rv_eq rfl))
  | ((with_reducible show Ev (tOp rNe _ _) _ _ _); exact ev_op (by walk_at "ev") (by walk_at "ev") (rv_ne rfl)))

section
variable {K : PySem.W.Frag} {σ : L2.St} {H H' : Hp} {ta tb te tx : TE} {x y z v : V} {a c : Addr} {xs : List V}
theorem ev_cval {C : Addr} {mc u : Value} {f : Str} (h : Ev ta σ H (.ref C)) (hc : ClX.CRead K C mc) (cv : ClX.CVal K C mc f v u) : Ev (ClX.tCVal K ta f) σ H v := fun H1 e Q q =>
  h H1 e _ fun H2 e2 => ⟨C, mc, v, u, rfl, hc, cv, q H2 e2⟩
def rTupS (K : PySem.W.Frag) : List V → Hp → VK → Prop := fun xs H Q => ∃ p ys, xs = [.ref p] ∧ ((SqL K H p ys ∧ ∀ l, H l = none → Q (.ref l) (upd H l (.tup ys))) ∨ (SqT K H p ys ∧ Q (.ref p) H))
theorem ev_tupT (h : Ev ta σ H (.ref a)) (hx : SqT K H a xs) : Ev (tCB (rTupS K) (tCons ta tNil)) σ H (.ref a) := fun H1 e Q q =>
  h H1 e _ fun H2 e2 => ⟨a, xs, rfl, .inr ⟨ex_t (e.trans e2) hx, q H2 e2⟩⟩
theorem eu_tupL (h : EvL ta σ H xs) : EvU (tCB (rTupS K) (tCons ta tNil)) σ H xs := fun H1 e Q q =>
  h H1 e _ fun p H2 _ e2 h2 => ⟨p, xs, rfl, .inl ⟨sq_of h2, fun l hl => q l _ (fresh_back e2 hl) (e2.trans (Ex.new hl)) upd_same⟩⟩
/-- what is handed back is some new object with P, seen apart from what M names -/
def EvR (te : TE) (σ : L2.St) (H : Hp) (M : Addr → Prop) (P : Addr → Hp → Prop) : Prop := ∀ H1, Ex H H1 → (∀ b, M b → H1 b ≠ none) → ∀ Q : VK, (∀ p H2, H1 p = none → Ex H1 H2 → P p (wn H2 M) → Q (.ref p) H2) → te σ H1 Q
end
theorem q_selfR {K : PySem.W.Frag} {σ : L2.St} {H : Hp} {ta te : TE} {a C dx : Addr} {fs : List (Str × V)} {f : Str} {D : Ends} {tz : TS} {M : Addr → Prop} {Pr : Addr → Hp → Prop} (ha : M a) (kn : ∀ b, M b → H b ≠ none) (h : EvR te σ H M Pr) (ho : ∀ H1, Ex H H1 → Ev ta σ H1 (.ref a)) (hx : H a = some (.ins C dx fs)) (c : Cls K C) (n : NoAttr K C f) (hl : fs.length < 1000)
    (hm : ∀ p H1 H2, Ex H1 H2 → Pr p H1 → Pr p H2)
    (k : ∀ (p : Addr) (S : Hp), Pr p (wn S M) → S a = some (.ins C dx (putF f (.ref p) fs)) → Go M a H S → tz D σ S) : tSeq (sFld K ta te f) tz D σ H :=
  h H (Ex.refl H) kn _ fun p H1 hp e1 hP => ho H1 e1 H1 (Ex.refl H1) _ fun H2 e2 => ⟨a, C, dx, fs, rfl, e2 _ _ (e1 _ _ hx), c, n, hl,
    k p _ (hm _ _ _ ((wn_mono e2).trans (wn_upd ha)) hP) upd_same (Go.up ha kn (e1.trans e2))⟩
/-! ### the checks, where nothing is wrong -/
variable {P : Program} {w : World} {K : PySem.W.Frag} {mg : Str → Option Value} {base : Heap} {Z : Ad}
def sp_num : Sp := fun vs H Q _ => ∃ n lo hi : Int, vs = [.int n, .int lo, .int hi] ∧ lo ≤ n ∧ n ≤ hi ∧ RetV .non H Q
theorem spv_num {H : Hp} {n lo hi : Int} (h1 : lo ≤ n) (h2 : n ≤ hi) : SpV sp_num [.int n, .int lo, .int hi] H .non := fun _ _ _ q _ => ⟨n, lo, hi, rfl, h1, h2, q⟩
theorem ok_check_number (T : Txt K mg Z) : FnOk P w K mg base CX0 1 Z.f_check_number Z.d_check_number p_check_number sp_num := by
  refine T.F_check_number.ok sc_check_number (fun vs H Q E h => ?_) (fun cdv Ar outer s H vs Q E hr h => ?_)
  · obtain ⟨n, lo, hi, rfl, _⟩ := h
    rfl
  · obtain ⟨n, lo, hi, rfl, h1, h2, k⟩ := h
    refine ⟨_, (pss_one (ps_if (PW.pt (pw_or (pt_cmpR op_lt (pv 0) (pv 1) (nomark _)) (pw_or1 (pt_cmpR op_gt (pv 0) (pv 2) (nomark _))))) (pss_one ps_no) pss_nil)), ?_⟩
    refine s_when (b := false) (et_is (et_or (et_test (by walk_at "ev")) fun _ => et_test (by walk_at "ev")) (by simp; omega)) (fun hb => nomatch hb) fun _ H1 e1 => k H1 e1
def sp_amounts (K : PySem.W.Frag) : Sp := fun vs H Q _ => ∃ (s : Str) (a : Addr) (am : List Int), vs = [.str s, .ref a] ∧ SqT K H a (am.map V.int) ∧ am.length ≤ 24 ∧ (∀ x ∈ am, 0 ≤ x ∧ x ≤ 1000000000) ∧ RetV .non H Q
theorem spv_amounts {H : Hp} {s : Str} {a : Addr} {am : List Int} (h : SqT K H a (am.map V.int)) (h1 : am.length ≤ 24) (h2 : ∀ x ∈ am, 0 ≤ x ∧ x ≤ 1000000000) : SpV (sp_amounts K) [.str s, .ref a] H .non := fun _ e _ q _ => ⟨s, a, am, rfl, ex_t e h, h1, h2, q⟩
theorem ok_check_amounts (T : Txt K mg Z) : FnOk P w K mg base CX0 1 Z.f_check_amounts Z.d_check_amounts p_check_amounts (sp_amounts K) := by
  refine T.F_check_amounts.ok sc_check_amounts (fun vs H Q E h => ?_) (fun cdv Ar outer s H vs Q E hr h => ?_)
  · obtain ⟨s, a, am, rfl, _⟩ := h
    rfl
  · obtain ⟨s, a, am, rfl, hS, hl, hb, k⟩ := h
    obtain ⟨cr, u, cv⟩ := T.cv_Bakery_MAX_DAYS
    refine ⟨_, (pss_one (ps_for PassesOwn.never rfl (pi_enumTK K rfl (by rfl) T.b_enumerate (pa_cons (pv 1) pa_nil)) (by exact (pg_tupK K (n := 2) rfl rfl (pgs_cons (pg_name (i := 2) sc_check_amounts.nd rfl (Or.inl rfl)) (pgs_cons (pg_name (i := 3) sc_check_amounts.nd rfl (Or.inl rfl)) pgs_nil)))) (pss_one (ps_if (PW.pt (pw_or (pt_cmpR op_eq (pv 2) (ClX.pe_cval (pe_glob (v := .ref Z.c_Bakery) (by rfl) T.g_Bakery rfl) rfl) (nomark _)) (pw_or (pt_cmpR op_lt (pv 3) pe_int (nomark _)) (pw_or1 (pt_cmpR op_gt (pv 3) (pe_glob (v := .int 1000000000) (by rfl) T.g_MOST_LOAVES ⟨_, rfl⟩) (nomark _)))))) (pss_one ps_no) pss_nil)))), ?_⟩
    refine s_forEnT (ea_cons (ev_var rfl) ea_nil) hS (fun i σ' H' => (∃ x y, σ' = [some (.str s), some (.ref a), x, y]) ∧ Ex H H') (fun H1 e1 => ⟨⟨_, _, rfl⟩, e1⟩) (fun i σ' H' _ p => p.2) ?_ ?_
    · rintro i x σ' H' hx ⟨⟨_, _, rfl⟩, e1⟩ H2 e2
      obtain ⟨rfl, hi⟩ := at_map hx
      have hb' := getD_mem0 (i := i) hb
      refine s_when (b := false) (et_is (et_or (et_test (ev_op (ev_var rfl) (ev_cval ev_c cr cv) (rv_eq rfl))) fun _ => et_or (et_test (by walk_at "ev")) fun _ => et_test (by walk_at "ev")) ?_) (fun hb => nomatch hb) fun _ H3 e3 => ⟨⟨_, _, rfl⟩, (e1.trans e2).trans e3⟩
      have q : ¬ (V.int (i : Nat) = V.int 24) := fun z => by injection z with z; omega
      generalize am.getD i 0 = v at hb'
      simp [q]; omega
    · rintro σ' H' ⟨⟨_, _, rfl⟩, e1⟩
      exact k H' e1
def sp_life1 : Sp := fun vs H Q _ => ∃ life : Int, vs = [.int life] ∧ 1 ≤ life ∧ life ≤ 30 ∧ RetV .non H Q
theorem spv_life {H : Hp} {life : Int} (l0 : 1 ≤ life) (l1 : life ≤ 30) : SpV sp_life1 [.int life] H .non := fun _ e _ q _ => ⟨life, rfl, l0, l1, q⟩
theorem ok_check_life (T : Txt K mg Z) : FnOk P w K mg base CX0 1 Z.f_check_life Z.d_check_life p_check_life sp_life1 := by
  refine T.F_check_life.ok sc_check_life (fun vs H Q E h => ?_) (fun cdv Ar outer s H vs Q E hr h => ?_)
  · obtain ⟨life, rfl, _⟩ := h
    rfl
  · obtain ⟨life, rfl, l0, l1, k⟩ := h
    obtain ⟨cr, u, cv⟩ := T.cv_Bakery_MAX_LIFE
    refine ⟨_, (pss_one (ps_if (PW.pt (pw_or (pt_cmpR op_lt (pv 0) pe_int (nomark _)) (pw_or1 (pt_cmpR op_gt (pv 0) (ClX.pe_cval (pe_glob (v := .ref Z.c_Bakery) (by rfl) T.g_Bakery rfl) rfl) (nomark _))))) (pss_one ps_no) pss_nil)), ?_⟩
    refine s_when (b := false) (et_is (et_or (et_test (by walk_at "ev")) fun _ => et_test (ev_op (ev_var rfl) (ev_cval ev_c cr cv) rv_I0)) (by simp; omega)) (fun hb => nomatch hb) fun _ H5 e5 => k H5 e5
def sp_check (K : PySem.W.Frag) : Sp := fun vs H Q _ => ∃ (a b : Addr) (bs ds : List Int) (life : Int), vs = [.ref a, .ref b, .int life] ∧ SqT K H a (bs.map V.int) ∧ SqT K H b (ds.map V.int) ∧ Good bs ds ∧ 1 ≤ life ∧ life ≤ 30 ∧ RetV .non H Q
theorem ok_check_bakery (T : Txt K mg Z) : FnOk P w K mg base CX0 2 Z.f_check_bakery Z.d_check_bakery p_check_bakery (sp_check K) := by
  refine T.F_check_bakery.ok sc_check_bakery (fun vs H Q E h => ?_) (fun cdv Ar outer s H vs Q E hr h => ?_)
  · obtain ⟨a, b, bs, ds, life, rfl, _⟩ := h
    rfl
  · obtain ⟨a, b, bs, ds, life, rfl, hB, hD, gd, l0, l1, k⟩ := h
    have h0 := gd.n0
    have hn := gd.n1
    have hld := gd.ld
    have e24 : ((bs.map V.int).length : Int) = (bs.length : Int) := by rw [List.length_map]
    have e24' : ((ds.map V.int).length : Int) = (ds.length : Int) := by rw [List.length_map]
    refine ⟨_, (pss_cons (ps_expr (pe_call (ok_check_amounts T) (hr.mono (by decide)) (by rfl) T.g_check_amounts T.F_check_amounts.kp T.b_check_amounts .nil pass0 (pa_cons pe_str (pa_cons (pv 0) pa_nil))))
      (pss_cons (ps_if (pt_cmpR op_eq (pe_callB (r := rLenS K) (call_len_seq) (by rfl) T.b_len boot_len (pa_cons (pv 0) pa_nil)) pe_int (nomark _)) (pss_one ps_no) pss_nil)
      (pss_cons (ps_expr (pe_call (ok_check_amounts T) (hr.mono (by decide)) (by rfl) T.g_check_amounts T.F_check_amounts.kp T.b_check_amounts .nil pass0 (pa_cons pe_str (pa_cons (pv 1) pa_nil))))
      (pss_cons (ps_if (pt_cmpR op_ne (pe_callB (r := rLenS K) (call_len_seq) (by rfl) T.b_len boot_len (pa_cons (pv 1) pa_nil)) (pe_callB (r := rLenS K) (call_len_seq) (by rfl) T.b_len boot_len (pa_cons (pv 0) pa_nil)) (nomark _)) (pss_one ps_no) pss_nil)
      (pss_one (ps_expr (pe_call (ok_check_life T) (hr.mono (by decide)) (by rfl) T.g_check_life T.F_check_life.kp T.b_check_life .nil pass0 (pa_cons (pv 2) pa_nil)))))))), ?_⟩
    refine q_drop (ev_call (ea_cons ev_c (ea_cons (ev_var rfl) ea_nil)) (spv_amounts hB (by omega) gd.b0)) fun H1 e1 => ?_
    refine q_when (b := false) (et_is (et_test (ev_op (Ev.int_eq (ev_lenT (ev_var rfl) (ex_t e1 hB)) e24) ev_c (rv_eq rfl))) ?_) (fun hb => nomatch hb) fun _ H2 e2 => ?_
    · have q : ¬ (V.int (bs.length : Int) = V.int 0) := fun z => by injection z with z; omega
      simp [q]
    refine q_drop (ev_call (ea_cons ev_c (ea_cons (ev_var rfl) ea_nil)) (spv_amounts (ex_t (e1.trans e2) hD) (by omega) gd.d0)) fun H3 e3 => ?_
    have eA := (e1.trans e2).trans e3
    refine q_when (b := false) (et_is (et_test (ev_op (Ev.int_eq (ev_lenT (ev_var rfl) (ex_t eA hD)) e24') (Ev.int_eq (ev_lenT (ev_var rfl) (ex_t eA hB)) e24) (rv_ne rfl))) ?_) (fun hb => nomatch hb) fun _ H4 e4 => ?_
    · have q : V.int (ds.length : Int) = V.int (bs.length : Int) := by rw [hld]
      simp [q]
    exact s_drop (ev_call (ea_cons (ev_var rfl) ea_nil) (spv_life l0 l1)) fun H5 e5 => k H5 ((eA.trans e4).trans e5)
/-! ### the bakery -/
def bakMeths : List Str := ["with_life", "baking_more", "stock", "sold", "missed", "thrown", "totals", "shelf", "MAX_LIFE"]
/-- a bakery -/
structure BakAt (K : PySem.W.Frag) (Z : Ad) (H : Hp) (b : Addr) (bs ds : List Int) (life : Int) (i : Nat) : Prop where
  fb : ∃ tb, FlK K H b Z.c_Bakery "_bakes" (.ref tb) ∧ SqT K H tb (bs.map V.int)
  fd : ∃ td, FlK K H b Z.c_Bakery "_demands" (.ref td) ∧ SqT K H td (ds.map V.int)
  fl : FlK K H b Z.c_Bakery "_life" (.int life)
  fc : ∃ c, FlK K H b Z.c_Bakery "course" (.ref c) ∧ CoAt K Z H c bs ds (keepL bs life)
  fs : FlK K H b Z.c_Bakery "_settled_day" (.int (grw bs ds (keepL bs life) * (bs.length : Int) + (i : Int)))
  fr : ∃ tl, FlK K H b Z.c_Bakery "_long_run" (.ref tl) ∧ SqT K H tl ((longI bs ds (lmOf bs ds (keepL bs life))).map V.int)
  gd : Good bs ds
  l0 : 1 ≤ life
  l1 : life ≤ 30
  hi : SetAt bs ds (keepL bs life) (gainOf bs ds) (firstOf bs ds (keepL bs life)) (fullOf bs ds (keepL bs life)) i
  nf : ∀ m : Str, m ∈ bakMeths → NoF H b Z.c_Bakery m
theorem BakAt.mono {H H' : Hp} {b : Addr} {bs ds : List Int} {life : Int} {i : Nat} (e : Ex H H') (h : BakAt K Z H b bs ds life i) : BakAt K Z H' b bs ds life i :=
  ⟨let ⟨a, x, y⟩ := h.fb; ⟨a, x.mono e, ex_t e y⟩, let ⟨a, x, y⟩ := h.fd; ⟨a, x.mono e, ex_t e y⟩, h.fl.mono e, let ⟨a, x, y⟩ := h.fc; ⟨a, x.mono e, CO.mono e y⟩, h.fs.mono e, let ⟨a, x, y⟩ := h.fr; ⟨a, x.mono e, ex_t e y⟩, h.gd, h.l0, h.l1, h.hi, fun m hm => (h.nf m hm).mono e⟩
theorem BakAt.com {H : Hp} {b : Addr} {bs ds : List Int} {life : Int} {i : Nat} (h : BakAt K Z H b bs ds life i) : CoM bs ds (keepL bs life) := ⟨h.gd, keepL_len, fun _ => keepL_nn h.gd.b0⟩
theorem BakAt.inst {H : Hp} {b : Addr} {bs ds : List Int} {life : Int} {i : Nat} (h : BakAt K Z H b bs ds life i) : ∃ dx fs, H b = some (.ins Z.c_Bakery dx fs) := let ⟨dx, fs, x, _⟩ := h.fl.fl; ⟨dx, fs, x⟩
/-- Course(..) -/
theorem er_course {σ : L2.St} {H : Hp} {M : Addr → Prop} {t : TA} {tb td : Addr} {bs ds : List Int} {life : Int} {E : XK} (ht : EvA t σ H [.ref tb, .ref td, .int life]) (hb : SqT K (wn H M) tb (bs.map V.int)) (hd : SqT K (wn H M) td (ds.map V.int)) (gd : Good bs ds) (l0 : 1 ≤ life) (l1 : life ≤ 30) :
    EvR (tMake Z.c_Course (sp_Cinit K Z) [] E t) σ H M (fun c H' => CoAt K Z H' c bs ds (keepL bs life)) := fun H1 e1 kn Q q => ht H1 e1 _ fun H2 e2 x dx hx hdx hne => by
  have eN : Ex H2 (upd (upd H2 dx (.own x)) x (.ins Z.c_Course dx [])) := fun b o hbo => by
    rw [upd_ne (ne_of_none hbo hx), upd_ne (ne_of_none hbo hdx)]; exact hbo
  have kn2 : ∀ b, M b → H2 b ≠ none := fun b hb z => kn b hb (fresh_back e2 z)
  refine ⟨x, dx, tb, td, bs, ds, life, M, rfl, upd_same, ex_t (wn_mono ((e1.trans e2).trans eN)) hb, ex_t (wn_mono ((e1.trans e2).trans eN)) hd, gd, l0, l1, fun b hb z => kn2 b hb (fresh_back eN z), fun z => kn2 x z hx, fun H3 hC k => ⟨rfl, ?_⟩⟩
  refine q x H3 (fresh_back e2 hx) (e2.trans fun b o hbo => k b o (eN b o hbo) (ne_of_none hbo hx)) hC
def sp_Binit (K : PySem.W.Frag) (Z : Ad) : Sp := fun vs H Q _ => ∃ (x dx tb td : Addr) (bs ds : List Int) (life : Int) (N : Addr → Prop), vs = [.ref x, .ref tb, .ref td, .int life] ∧ H x = some (.ins Z.c_Bakery dx []) ∧
  SqT K (wn H N) tb (bs.map V.int) ∧ SqT K (wn H N) td (ds.map V.int) ∧ Good bs ds ∧ 1 ≤ life ∧ life ≤ 30 ∧
  (∀ b, N b → H b ≠ none) ∧ ¬ N x ∧ ∀ H' i, BakAt K Z (wn H' N) x bs ds life i → (∀ b o, H b = some o → b ≠ x → H' b = some o) → Q .non H'
theorem er_bakery {σ : L2.St} {H : Hp} {M : Addr → Prop} {t : TA} {tb td : Addr} {bs ds : List Int} {life : Int} {E : XK} (ht : EvA t σ H [.ref tb, .ref td, .int life]) (hb : SqT K (wn H M) tb (bs.map V.int)) (hd : SqT K (wn H M) td (ds.map V.int)) (gd : Good bs ds) (l0 : 1 ≤ life) (l1 : life ≤ 30) :
    EvR (tMake Z.c_Bakery (sp_Binit K Z) [] E t) σ H M (fun c H' => ∃ i, BakAt K Z H' c bs ds life i) := fun H1 e1 kn Q q => ht H1 e1 _ fun H2 e2 x dx hx hdx hne => by
  have eN : Ex H2 (upd (upd H2 dx (.own x)) x (.ins Z.c_Bakery dx [])) := fun b o hbo => by
    rw [upd_ne (ne_of_none hbo hx), upd_ne (ne_of_none hbo hdx)]; exact hbo
  have kn2 : ∀ b, M b → H2 b ≠ none := fun b hb z => kn b hb (fresh_back e2 z)
  refine ⟨x, dx, tb, td, bs, ds, life, M, rfl, upd_same, ex_t (wn_mono ((e1.trans e2).trans eN)) hb, ex_t (wn_mono ((e1.trans e2).trans eN)) hd, gd, l0, l1, fun b hb z => kn2 b hb (fresh_back eN z), fun z => kn2 x z hx, fun H3 i hC k => ⟨rfl, ?_⟩⟩
  refine q x H3 (fresh_back e2 hx) (e2.trans fun b o hbo => k b o (eN b o hbo) (ne_of_none hbo hx)) ⟨i, hC⟩
theorem ok_Bakery___init__ (T : Txt K mg Z) : FnOk P w K mg base CX0 6 Z.f_Bakery___init__ Z.d_Bakery___init__ p_Bakery___init__ (sp_Binit K Z) := by
  refine T.F_Bakery___init__.ok sc_Bakery___init__ (fun vs H Q E h => ?_) (fun cdv Ar outer s H vs Q E hr h => ?_)
  · obtain ⟨x, dx, tb, td, bs, ds, life, N, rfl, _⟩ := h
    rfl
  · obtain ⟨x, dx, tb, td, bs, ds, life, N, rfl, hx, hb, hd, gd, l0, l1, hN, nNx, k⟩ := h
    have hM : nx x N x := .inl rfl
    have cl := T.cl_Bakery
    have cm : CoM bs ds (keepL bs life) := ⟨gd, keepL_len, fun _ => keepL_nn gd.b0⟩
    obtain ⟨i, hi⟩ := set_ex cm
    refine ⟨_, (pss_cons (ps_expr (pe_call (ok_check_bakery T) (hr.mono (by decide)) (by rfl) T.g_check_bakery T.F_check_bakery.kp T.b_check_bakery .nil pass0 (pa_cons (pv 1) (pa_cons (pv 2) (pa_cons (pv 3) pa_nil)))))
      (pss_cons (ps_fld (pv 0) (pe_callTy (r := rTupS K) (call_tuple_of) (by rfl) T.b_tuple boot_tuple (pa_cons (pv 1) pa_nil)) rfl)
      (pss_cons (ps_fld (pv 0) (pe_callTy (r := rTupS K) (call_tuple_of) (by rfl) T.b_tuple boot_tuple (pa_cons (pv 2) pa_nil)) rfl)
      (pss_cons (ps_fld (pv 0) (pv 3) rfl)
      (pss_cons (ps_fld (pv 0) (pe_make T.mk_Course (ok_Course___init__ T) (hr.mono (by decide)) (by rfl) T.g_Course T.b_Course___init__ .nil pass0 (pa_cons (pe_fldK K rfl (pv 0) rfl) (pa_cons (pe_fldK K rfl (pv 0) rfl) (pa_cons (pv 3) pa_nil)))) rfl)
      (pss_cons (ps_fld (pv 0) (pe_meth0 (pe_fldK K rfl (pv 0) rfl) T.cl_Course T.m_Course_find_settled (ok_Course_find_settled T) (hr.mono (by decide)) T.b_Course_find_settled .nil pass0) rfl)
      (pss_one (ps_fld (pv 0) (pe_meth0 (pe_fldK K rfl (pv 0) rfl) T.cl_Course T.m_Course_sum_settled_round (ok_Course_sum_settled_round T) (hr.mono (by decide)) T.b_Course_sum_settled_round .nil pass0) rfl)))))))), ?_⟩
    refine q_drop (ev_call (ea_cons (ev_var rfl) (ea_cons (ev_var rfl) (ea_cons (ev_var rfl) ea_nil))) (fun _ e _ q _ => ⟨tb, td, bs, ds, life, rfl, ex_t (wn_ex.trans e) hb, ex_t (wn_ex.trans e) hd, gd, l0, l1, q⟩)) fun H0 e0 => ?_
    have hbw : SqT K (wn H (nx x N)) tb (bs.map V.int) := wn_tx hx hb
    have hdw : SqT K (wn H (nx x N)) td (ds.map V.int) := wn_tx hx hd
    have w0 : Ex (wn H (nx x N)) (wn H0 (nx x N)) := wn_mono e0
    have kn0 : ∀ b, nx x N b → H0 b ≠ none := fun b z q => z.elim (fun e => by rw [e, e0 _ _ hx] at q; cases q) fun e => hN b e (fresh_back e0 q)
    refine q_self hM kn0 (ev_tupT (ev_var rfl) (ex_t (wn_ex.trans e0) hb)) (fun _ _ => ev_var rfl) (e0 _ _ hx) cl T.na_Bakery__bakes (by decide) fun S1 x1 g1 => ?_
    refine q_self hM g1.kn (ev_tupT (ev_var rfl) (ex_t ((w0.trans g1.ex).trans wn_ex) hdw)) (fun _ _ => ev_var rfl) x1 cl T.na_Bakery__demands (by show 1 < 1000; decide) fun S2 x2 g2 => ?_
    refine q_self hM g2.kn (ev_var rfl) (fun _ _ => ev_var rfl) x2 cl T.na_Bakery__life (by show 2 < 1000; decide) fun S3 x3 g3 => ?_
    have w03 := ((w0.trans g1.ex).trans g2.ex).trans g3.ex
    have fb3 := flk_of x3 cl T.na_Bakery__bakes (show _ = some (V.ref tb) from rfl)
    have fd3 := flk_of x3 cl T.na_Bakery__demands (show _ = some (V.ref td) from rfl)
    -- course
    refine q_selfR hM g3.kn (er_course (ea_cons (by walk_at "ev") (ea_cons (by walk_at "ev") (ea_cons (ev_var rfl) ea_nil))) (ex_t w03 hbw) (ex_t w03 hdw) gd l0 l1) (fun _ _ => ev_var rfl) x3 cl T.na_Bakery_course (by show 3 < 1000; decide)
      (fun p H1 H2 e hP => CO.mono e hP) fun c S4 c4 x4 g4 => ?_
    -- _settled_day
    have fc4 := flk_of x4 cl T.na_Bakery_course (show _ = some (V.ref c) from rfl)
    have fsr : ∀ {S : Hp}, CoAt K Z S c bs ds (keepL bs life) → SpV (sp_settled K Z) [.ref c] S (.int (grw bs ds (keepL bs life) * (bs.length : Int) + (i : Int))) := fun hC _ e _ q _ => by
      obtain ⟨tb', td', tk', s⟩ := hC.sr
      exact ⟨c, bs, ds, keepL bs life, tb', td', tk', _, _, _, i, rfl, ⟨s.mono e, (hC.nf _ (by decide)).mono e⟩, cm.gainb.1, hi, q⟩
    refine q_self hM g4.kn (ev_meth (by walk_at "ev") ((CO.mono wn_ex c4).nf _ (by decide)) ea_nil (fsr (CO.mono wn_ex c4))) (fun _ _ => ev_var rfl) x4 cl T.na_Bakery__settled_day (by show 4 < 1000; decide) fun S5 x5 g5 => ?_
    have fc5 := flk_of x5 cl T.na_Bakery_course (show _ = some (V.ref c) from rfl)
    have c5 : CoAt K Z (wn S5 (nx x N)) c bs ds (keepL bs life) := CO.mono g5.ex c4
    refine q_selfU hM g5.kn (xs := (longI bs ds (lmOf bs ds (keepL bs life))).map V.int) (eu_meth (by walk_at "ev") ((CO.mono wn_ex c5).nf _ (by decide)) ea_nil (fun _ e _ q _ => ⟨c, bs, ds, keepL bs life, _, _, _, _, _, rfl, CO.mono e (CO.mono wn_ex c5), q⟩)) (fun _ _ => ev_var rfl) x5 cl T.na_Bakery__long_run (by show 5 < 1000; decide) fun tl S6 hl6 x6 g6 => ?_
    have w06 := ((w03.trans g4.ex).trans g5.ex).trans g6.ex
    have sb : ∀ {S : Hp}, Ex (wn S (nx x N)) (wn S N) := wn_sub fun b z => .inr z
    have y6 : wn S6 N x = _ := (wn_ni nNx).trans x6
    refine k S6 i ⟨⟨tb, flk_of y6 cl T.na_Bakery__bakes rfl, ex_t (w06.trans sb) hbw⟩, ⟨td, flk_of y6 cl T.na_Bakery__demands rfl, ex_t (w06.trans sb) hdw⟩, flk_of y6 cl T.na_Bakery__life rfl, ⟨c, flk_of y6 cl T.na_Bakery_course rfl, CO.mono (g6.ex.trans sb) c5⟩,
      flk_of y6 cl T.na_Bakery__settled_day rfl, ⟨tl, flk_of y6 cl T.na_Bakery__long_run rfl, ex_t sb hl6⟩, gd, l0, l1, hi, ?_⟩ fun b o hbo hne => ?_
    · intro m hm
      refine ⟨_, _, y6, ?_⟩
      simp only [bakMeths, List.mem_cons, List.not_mem_nil, or_false] at hm
      rcases hm with rfl | rfl | rfl | rfl | rfl | rfl | rfl | rfl | rfl <;> rfl
    · exact g6.al b o (g5.al b o (g4.al b o (g3.al b o (g2.al b o (g1.al b o (e0 b o hbo) hne) hne) hne) hne) hne) hne
/-! ### a bakery's methods -/
theorem ev_prop {σ : L2.St} {H : Hp} {ta : TE} {C a : Addr} {sp : Sp} {E : XK} {z : V} (h : Ev ta σ H (.ref a)) (hi : ∃ dx fs, H a = some (.ins C dx fs)) (hs : SpV sp [.ref a] H z) : Ev (tProp C sp [] E ta) σ H z := fun H1 e Q q =>
  h H1 e _ fun H2 e2 => let ⟨dx, fs, h1⟩ := hi; ⟨a, dx, fs, rfl, e2 _ _ (e _ _ h1), hs H2 (e.trans e2) Q (fun H3 e3 => q H3 (e2.trans e3)) E⟩
def sp_Bset (K : PySem.W.Frag) (Z : Ad) : Sp := fun vs H Q _ => ∃ (b : Addr) (bs ds : List Int) (life : Int) (i : Nat), vs = [.ref b] ∧ BakAt K Z H b bs ds life i ∧ RetV (.int (grw bs ds (keepL bs life) * (bs.length : Int) + (i : Int))) H Q
def sp_Blong (K : PySem.W.Frag) (Z : Ad) : Sp := fun vs H Q _ => ∃ (b : Addr) (bs ds : List Int) (life : Int) (i : Nat), vs = [.ref b] ∧ BakAt K Z H b bs ds life i ∧ ∀ p H', Ex H H' → SqT K H' p ((longI bs ds (lmOf bs ds (keepL bs life))).map V.int) → Q (.ref p) H'
def sp_Bstock (K : PySem.W.Frag) (Z : Ad) : Sp := fun vs H Q _ => ∃ (b : Addr) (bs ds : List Int) (life : Int) (i : Nat) (t : Nat), vs = [.ref b, .int (t : Int)] ∧ (t : Int) ≤ 1000000000000000000 ∧ BakAt K Z H b bs ds life i ∧ RetV (.int (dayS bs ds (keepL bs life) t)) H Q
theorem ok_Bakery_stock (T : Txt K mg Z) : FnOk P w K mg base CX0 4 Z.f_Bakery_stock Z.d_Bakery_stock p_Bakery_stock (sp_Bstock K Z) := by
  refine T.F_Bakery_stock.ok sc_Bakery_stock (fun vs H Q E h => ?_) (fun cdv Ar outer s H vs Q E hr h => ?_)
  · obtain ⟨b, bs, ds, life, i, t, rfl, _⟩ := h
    rfl
  · obtain ⟨b, bs, ds, life, i, t, rfl, ht, hB, k⟩ := h
    refine ⟨_, (pss_cons (ps_expr (pe_call (ok_check_number T) (hr.mono (by decide)) (by rfl) T.g_check_number T.F_check_number.kp T.b_check_number .nil pass0 (pa_cons (pv 1) (pa_cons pe_int (pa_cons (pe_glob (v := .int 1000000000000000000) (by rfl) T.g_LAST_DAY ⟨_, rfl⟩) pa_nil)))))
      (pss_one (ps_ret (pe_meth (pe_fldK K rfl (pv 0) rfl) T.cl_Course T.m_Course_stock_at (ok_Course_stock_at T) (hr.mono (by decide)) T.b_Course_stock_at .nil pass0 (pa_cons (pv 1) pa_nil))))), ?_⟩
    refine q_drop (ev_call (ea_cons (ev_var rfl) (ea_cons ev_c (ea_cons ev_c ea_nil))) (spv_num (by omega) ht)) fun H1 e1 => ?_
    obtain ⟨c, fc, hC⟩ := (hB.mono e1).fc
    obtain ⟨tb, td, tk, s⟩ := hC.sr
    refine s_ret (ev_is (ev_meth (by walk_at "ev") (hC.nf _ (by decide)) (ea_cons (ev_var rfl) ea_nil) (spv_stock_at s)) ?_) fun H2 e2 => k H2 (e1.trans e2)
    rw [stock_is hB.com]
def sp_Bday (K : PySem.W.Frag) (Z : Ad) (j : Nat) : Sp := fun vs H Q _ => ∃ (b : Addr) (bs ds : List Int) (life : Int) (i : Nat) (t : Nat), vs = [.ref b, .int (t : Int)] ∧ (t : Int) ≤ 1000000000000000000 ∧ BakAt K Z H b bs ds life i ∧ RetV (.int ([solS bs ds (keepL bs life) t, misS bs ds (keepL bs life) t, thrS bs ds (keepL bs life) t].getD j 0)) H Q
theorem ok_Bakery_thrown (T : Txt K mg Z) : FnOk P w K mg base CX0 4 Z.f_Bakery_thrown Z.d_Bakery_thrown p_Bakery_thrown (sp_Bday K Z 2) := by
  refine T.F_Bakery_thrown.ok sc_Bakery_thrown (fun vs H Q E h => ?_) (fun cdv Ar outer s H vs Q E hr h => ?_)
  · obtain ⟨b, bs, ds, life, i, t, rfl, _⟩ := h
    rfl
  · obtain ⟨b, bs, ds, life, i, t, rfl, ht, hB, k⟩ := h
    refine ⟨_, (pss_cons (ps_expr (pe_call (ok_check_number T) (hr.mono (by decide)) (by rfl) T.g_check_number T.F_check_number.kp T.b_check_number .nil pass0 (pa_cons (pv 1) (pa_cons pe_int (pa_cons (pe_glob (v := .int 1000000000000000000) (by rfl) T.g_LAST_DAY ⟨_, rfl⟩) pa_nil)))))
      (pss_one (ps_ret (pe_ix (r := rIxT K) ix_tup (pe_meth (pe_fldK K rfl (pv 0) rfl) T.cl_Course T.m_Course_sales_on (ok_Course_sales_on T) (hr.mono (by decide)) T.b_Course_sales_on .nil pass0 (pa_cons (pv 1) pa_nil)) pe_int (fun _ _ => rfl))))), ?_⟩
    refine q_drop (ev_call (ea_cons (ev_var rfl) (ea_cons ev_c (ea_cons ev_c ea_nil))) (spv_num (by omega) ht)) fun H1 e1 => ?_
    obtain ⟨c, fc, hC⟩ := (hB.mono e1).fc
    obtain ⟨tb, td, tk, s⟩ := hC.sr
    have hs : salesI bs ds (keepL bs life) (gainOf bs ds) (firstOf bs ds (keepL bs life)) (fullOf bs ds (keepL bs life)) (t : Int) = _ := sales_is hB.com t
    refine s_ret (ev_ixNU (i := 2) (v := .int (thrS bs ds (keepL bs life) t)) (eu_meth (by walk_at "ev") (hC.nf _ (by decide)) (ea_cons (ev_var rfl) ea_nil) (spu_sales_on s)) ev_c (by rw [hs]; rfl)) fun H2 e2 => k H2 (e1.trans e2)
def totS (bs ds ks : List Int) (t : Nat) : List Int := [psum (solS bs ds ks) t, psum (misS bs ds ks) t, psum (thrS bs ds ks) t]
def sp_Btot (K : PySem.W.Frag) (Z : Ad) : Sp := fun vs H Q _ => ∃ (b : Addr) (bs ds : List Int) (life : Int) (i : Nat) (t : Nat), vs = [.ref b, .int (t : Int)] ∧ (t : Int) ≤ 1000000000000000000 ∧ BakAt K Z H b bs ds life i ∧ RetU ((totS bs ds (keepL bs life) t).map V.int) H Q
end Sw
namespace Sw
section
variable {bs ds ks : List Int}
theorem tot_long (h : CoM bs ds ks) {a : Nat} (hD : ∀ t, a ≤ t → dayS bs ds ks t = dayS bs ds ks (t + bs.length)) (T j : Nat) :
    (totS bs ds ks (a + T * bs.length)).getD j 0 = (totS bs ds ks a).getD j 0 + (T : Int) * (longI bs ds (lmOf bs ds ks)).getD j 0 := by
  have hm : ∀ t, a ≤ t → misS bs ds ks (t + bs.length) = misS bs ds ks t := fun t ht => by unfold misS dm bk; rw [Nat.add_mod_right, ← hD t ht]
  have hs : ∀ t, a ≤ t → solS bs ds ks (t + bs.length) = solS bs ds ks t := fun t ht => by unfold solS; rw [hm t ht]; unfold dm; rw [Nat.add_mod_right]
  have ht : ∀ t, a ≤ t → thrS bs ds ks (t + bs.length) = thrS bs ds ks t := fun t ht => by
    unfold thrS
    rw [hs t ht, ← hD t ht, show t + bs.length + 1 = t + 1 + bs.length by omega, ← hD (t + 1) (by omega)]
    unfold bk; rw [Nat.add_mod_right]
  rw [long_is h hD]
  unfold totS
  rw [rounds_psum hs T, rounds_psum hm T, rounds_psum ht T]
  match j with
  | 0 => rfl
  | 1 => rfl
  | 2 => rfl
  | j + 3 => simp [List.getD]
theorem stkAt_top {bs ds ks : List Int} {s : Int} {i : Nat} : stkAt bs ds ks s (i + 1) ≤ ks.getD i 0 := by
  show stp _ _ _ _ ≤ _
  unfold stp; omega
theorem keepAt_le {life : Int} {i : Nat} (h : ∀ x ∈ bs, 0 ≤ x ∧ x ≤ 1000000000) (l0 : 1 ≤ life) (l1 : life ≤ 30) : keepAt bs life i ≤ 29000000000 := by
  unfold keepAt
  have z := sum_bound (xs := (List.range (life - 1).toNat).map fun (age : Nat) => bs.getD ((((i : Int) - (age : Int)) % (bs.length : Int)).toNat) 0) (M := 1000000000) (by omega) (fun x hx => by
    obtain ⟨j, _, rfl⟩ := List.mem_map.mp hx
    exact getD_mem0 h)
  rw [List.length_map, List.length_range] at z
  have : ((life - 1).toNat : Int) * 1000000000 ≤ 29 * 1000000000 := Int.mul_le_mul_of_nonneg_right (by omega) (by omega)
  omega
theorem full_small {life : Int} (h : CoM bs ds (keepL bs life)) (l0 : 1 ≤ life) (l1 : life ≤ 30) : fullOf bs ds (keepL bs life) ≤ 29000000000 := by
  unfold fullOf
  obtain ⟨m, hm⟩ : ∃ m, bs.length = m + 1 := ⟨bs.length - 1, by have := h.gd.n0; omega⟩
  rw [hm]
  have z := stkAt_top (bs := bs) (ds := ds) (ks := keepL bs life) (s := (keepL bs life).getD 0 0 + ds.getD 0 0) (i := m)
  have e : (keepL bs life).getD m 0 = keepAt bs life m := by
    unfold keepL
    simp [List.getD, List.getElem?_range (show m < bs.length by omega)]
  have q := keepAt_le (i := m) h.gd.b0 l0 l1
  omega
theorem settled_small {life : Int} (h : CoM bs ds (keepL bs life)) (l0 : 1 ≤ life) (l1 : life ≤ 30) {i : Nat} (hi : SetAt bs ds (keepL bs life) (gainOf bs ds) (firstOf bs ds (keepL bs life)) (fullOf bs ds (keepL bs life)) i) :
    0 ≤ grw bs ds (keepL bs life) * (bs.length : Int) + (i : Int) ∧ grw bs ds (keepL bs life) * (bs.length : Int) + (i : Int) ≤ 1000000000000 := by
  have g0 := grw_nn h
  have f1 := full_small h l0 l1
  have f0 := h.first
  have fl := first_le h
  have n1 := h.gd.n1
  have hg := h.gainb.1
  have gs : grw bs ds (keepL bs life) ≤ 29000000000 := by
    by_cases z : gainOf bs ds = 0
    · have : grw bs ds (keepL bs life) = 0 := by unfold grw growing; rw [if_pos z]
      omega
    · have e : grw bs ds (keepL bs life) = -((firstOf bs ds (keepL bs life) - fullOf bs ds (keepL bs life)) / gainOf bs ds) := by unfold grw growing; rw [if_neg z]
      have q1 := Int.lt_ediv_add_one_mul_self (firstOf bs ds (keepL bs life) - fullOf bs ds (keepL bs life)) (show 0 < gainOf bs ds by omega)
      have q2 : (firstOf bs ds (keepL bs life) - fullOf bs ds (keepL bs life)) / gainOf bs ds ≥ firstOf bs ds (keepL bs life) - fullOf bs ds (keepL bs life) := by
        by_cases w : (firstOf bs ds (keepL bs life) - fullOf bs ds (keepL bs life)) / gainOf bs ds < firstOf bs ds (keepL bs life) - fullOf bs ds (keepL bs life)
        · exfalso
          have w1 : (firstOf bs ds (keepL bs life) - fullOf bs ds (keepL bs life)) / gainOf bs ds + 1 ≤ firstOf bs ds (keepL bs life) - fullOf bs ds (keepL bs life) := by omega
          have w2 : ((firstOf bs ds (keepL bs life) - fullOf bs ds (keepL bs life)) / gainOf bs ds + 1) * gainOf bs ds ≤ (firstOf bs ds (keepL bs life) - fullOf bs ds (keepL bs life)) * gainOf bs ds := Int.mul_le_mul_of_nonneg_right w1 hg
          have w3 : (firstOf bs ds (keepL bs life) - fullOf bs ds (keepL bs life)) * gainOf bs ds ≤ (firstOf bs ds (keepL bs life) - fullOf bs ds (keepL bs life)) * 1 := Int.mul_le_mul_of_nonpos_left (by omega) (by omega)
          omega
        · omega
      omega
  have n0 : 0 ≤ grw bs ds (keepL bs life) * (bs.length : Int) := Int.mul_nonneg g0 (by omega)
  have n2 : grw bs ds (keepL bs life) * (bs.length : Int) ≤ 29000000000 * 24 := by
    have w1 : grw bs ds (keepL bs life) * (bs.length : Int) ≤ grw bs ds (keepL bs life) * 24 := Int.mul_le_mul_of_nonneg_left (by omega) g0
    omega
  have := hi.1
  omega
end
end Sw
namespace Sw
open PySem PySem.Spec PyProof.Rows L2 Evl
local macro_rules | `(tactic| walk_at "ev") => `(tactic| first
  | exact ev_c
  | exact ev_var rfl
  | ((with_reducible show Ev (tCB rMax2 _) _ _ _); exact ev_maxi (by walk_at "ev") (by walk_at "ev"))
  | ((with_reducible show Ev (tCB rMn _) _ _ _); exact ev_min2 (by walk_at "ev") (by walk_at "ev"))
  | ((with_reducible show Ev (tUn _ _) _ _ _); exact ev_un (by walk_at "ev") ru_neg)
  | ((with_reducible show Ev (tFld _ _ _) _ _ _); exact ev_fldK (by walk_at "ev") (by assumption))
  | ((with_reducible show Ev (tOp (rI0 _) _ _) _ _ _); exact ev_op (by walk_at "ev") (by walk_at "ev") rv_I0)
  | ((with_reducible show Ev (tOp rEq _ _) _ _ _); exact ev_op (by walk_at "ev") (by walk_at "ev") (rv_eq rfl))
  | ((with_reducible show Ev (tOp rNe _ _) _ _ _); exact ev_op (by walk_at "ev") (by walk_at "ev") (rv_ne rfl)))

/-! ### the law's draws: a list of a number, a list of cells, an index -/
def HS (H : Hp) (h l : Addr) : Prop := ∃ (m : Int) (cells : List Int) (idx : Int), H h = some (.lst [.int m, .ref l, .int idx]) ∧ H l = some (.lst (cells.map V.int)) ∧ 0 ≤ m ∧ m < 2147483647 ∧ 0 ≤ idx ∧ cells.length ≤ 63
def hl (h l : Addr) : Addr → Prop := fun b => b = h ∨ b = l
theorem HS.ne {H : Hp} {h l : Addr} (q : HS H h l) : l ≠ h := by
  obtain ⟨m, cells, idx, h1, h2, _⟩ := q
  intro e
  rw [e, h1] at h2
  have z := HO.lst.inj (Option.some.inj h2)
  cases cells with
  | nil => cases z
  | cons a r =>
    cases r with
    | nil => cases z
    | cons b r =>
      injection z with _ z
      injection z with z _
      cases z
theorem HS.mono {H H' : Hp} {h l : Addr} (e : Ex H H') (q : HS H h l) : HS H' h l :=
  let ⟨m, cells, idx, h1, h2, r⟩ := q; ⟨m, cells, idx, e _ _ h1, e _ _ h2, r⟩
theorem HS.kn {H : Hp} {h l : Addr} (q : HS H h l) : ∀ b, hl h l b → H b ≠ none := by
  obtain ⟨m, cells, idx, h1, h2, _⟩ := q
  rintro b (rfl | rfl) z
  · rw [h1] at z; cases z
  · rw [h2] at z; cases z
/-- a draw may change h and l, and makes what it likes -/
structure Dr (h l : Addr) (H H' : Hp) : Prop where
  hs : HS H' h l
  ex : Ex (wn H (hl h l)) (wn H' (hl h l))
theorem Dr.trans {h l : Addr} {H H1 H2 : Hp} (a : Dr h l H H1) (b : Dr h l H1 H2) : Dr h l H H2 := ⟨b.hs, a.ex.trans b.ex⟩
theorem Dr.refl {h l : Addr} {H : Hp} (q : HS H h l) : Dr h l H H := ⟨q, Ex.refl _⟩
theorem Dr.of {h l : Addr} {H H' : Hp} (q : HS H h l) (e : Ex H H') : Dr h l H H' := ⟨q.mono e, wn_mono e⟩
def sp_next : Sp := fun vs H Q _ => ∃ (h l : Addr) (limit : Int), vs = [.ref h, .int limit] ∧ 0 < limit ∧ limit ≤ 1000000000000000000 ∧ HS H h l ∧ ∀ v H', 0 ≤ v → v < limit → Dr h l H H' → Q (.int v) H'
section
variable {K : PySem.W.Frag} {σ : L2.St} {H H' : Hp} {ta tb te tx : TE} {x y z v : V} {a h l : Addr} {xs ys : List V}
theorem el_cat (ha : Ev ta σ H (.ref a)) (hx : H a = some (.lst xs)) (hb : EvL tb σ H ys) (hz : xs.length + ys.length ≤ 100000) : EvL (tOp rCat ta tb) σ H (xs ++ ys) := fun H1 e Q q =>
  ha H1 e _ fun H2 e2 => hb H2 (e.trans e2) _ fun p H3 _ e3 hp => ⟨a, p, xs, ys, rfl, rfl, e3 _ _ (e2 _ _ (e _ _ hx)), hp, sz_of hz, fun r hr => q r _ (fresh_back (e2.trans e3) hr) ((e2.trans e3).trans (Ex.new hr)) upd_same⟩
theorem Dr.upd {o : HO} (hN : hl h l a) (q : HS (L2.upd H a o) h l) : Dr h l H (L2.upd H a o) := ⟨q, wn_upd hN⟩
end
variable {P : Program} {w : World} {K : PySem.W.Frag} {mg : Str → Option Value} {base : Heap} {Z : Ad}
theorem ok__law_next (T : Txt K mg Z) : FnOk P w K mg base CX0 1 Z.f__law_next Z.d__law_next p__law_next sp_next := by
  refine T.F__law_next.ok sc__law_next (fun vs H Q E h => ?_) (fun cdv Ar outer s H vs Q E hr h => ?_)
  · obtain ⟨a, l, limit, rfl, _⟩ := h
    rfl
  · obtain ⟨a, l, limit, rfl, p0, p1, hs, k⟩ := h
    obtain ⟨m, cells, idx, h1, h2, m0, m1, i0, c0⟩ := id hs
    have nla := hs.ne
    have hlen : (((cells.map V.int).length : Nat) : Int) = (cells.length : Int) := by rw [List.length_map]
    have q0 : 0 ≤ idx % max 1 (cells.length : Int) := Int.emod_nonneg _ (by omega)
    have q1 : idx % max 1 (cells.length : Int) < max 1 (cells.length : Int) := Int.emod_lt_of_pos _ (by omega)
    have p10 : (10 : Int) ^ (18 : Int).toNat = 1000000000000000000 := by decide
    have ix1 : ∀ {σ : L2.St} {G : Hp} {te : TE}, Ev te σ G (.ref a) → G a = some (.lst [.int m, .ref l, .int idx]) → Ev (tOp (rIxL K) te (tC (.int 1))) σ G (.ref l) := fun he hg => ev_ixL he (sq_of hg) ev_c rfl
    have ix2 : ∀ {σ : L2.St} {G : Hp} {te : TE} {m' : Int}, Ev te σ G (.ref a) → G a = some (.lst [.int m', .ref l, .int idx]) → Ev (tOp (rIxL K) te (tC (.int 2))) σ G (.int idx) := fun he hg => ev_ixL he (sq_of hg) ev_c rfl
    refine ⟨_, (pss_cons (ps_set (i := 2) sc__law_next.nd rfl (Or.inl rfl) (pe_ix (r := rIxL K) ix_list (pe_op op_cat (pe_ix (r := rIxL K) ix_list (pv 0) pe_int (fun _ _ => rfl)) (pe_lst (pa_cons pe_int pa_nil))) (pe_op op_mod (pe_ix (r := rIxL K) ix_list (pv 0) pe_int (fun _ _ => rfl)) (pe_callB (r := rMax2) (call_max2 rfl) (by rfl) T.b_max boot_max (pa_cons pe_int (pa_cons (pe_callB (r := rLenS K) (call_len_seq) (by rfl) T.b_len boot_len (pa_cons (pe_ix (r := rIxL K) ix_list (pv 0) pe_int (fun _ _ => rfl)) pa_nil)) pa_nil)))) (fun _ _ => rfl)))
      (pss_cons (ps_if (pt_cmpR op_ge (pv 2) (pe_op op_pow pe_int pe_int) (nomark _)) (pss_cons (ps_asg (pe_op op_fdivW (pv 2) (pv 1)) (pg_sub (pe_ix (r := rIxL K) ix_list (pv 0) pe_int (fun _ _ => rfl)) (pe_op op_mod (pe_ix (r := rIxL K) ix_list (pv 0) pe_int (fun _ _ => rfl)) (pe_callB (r := rLenS K) (call_len_seq) (by rfl) T.b_len boot_len (pa_cons (pe_ix (r := rIxL K) ix_list (pv 0) pe_int (fun _ _ => rfl)) pa_nil))) set_list))
      (pss_one (ps_ret (pe_op op_mod (pv 2) (pv 1))))) pss_nil)
      (pss_cons (ps_asg (pe_op op_mod (pe_op op_add (pe_op op_add (pe_op op_mul (pe_ix (r := rIxL K) ix_list (pv 0) pe_int (fun _ _ => rfl)) pe_int) (pe_op op_mul (pv 2) pe_int)) pe_int) pe_int) (pg_sub (pv 0) pe_int set_list))
      (pss_cons (ps_asg (pe_op op_add (pe_ix (r := rIxL K) ix_list (pv 0) pe_int (fun _ _ => rfl)) pe_int) (pg_sub (pv 0) pe_int set_list))
      (pss_one (ps_ret (pe_op op_mod (pe_op op_fdivW (pe_ix (r := rIxL K) ix_list (pv 0) pe_int (fun _ _ => rfl)) pe_int) (pv 1)))))))), ?_⟩
    refine q_asg (v := .int ((cells ++ [0]).getD (idx % max 1 (cells.length : Int)).toNat 0)) (ev_ixNL (xs := (cells ++ [0]).map V.int) ?_ (ev_op (ix2 (ev_var rfl) h1) (ev_maxi ev_c (Ev.int_eq (ev_len (ix1 (ev_var rfl) h1) (sq_of h2)) hlen)) (rv_I (by show (0 : Int) < _; omega))) (atI_mapI q0 (by rw [List.length_append, List.length_singleton]; omega))) fun H1 e1 => ?_
    · rw [List.map_append]
      exact el_cat (ix1 (ev_var rfl) h1) h2 (el_lst (ea_cons ev_c ea_nil) (by show 1 ≤ 100000; decide)) (by rw [List.length_map]; show _ + 1 ≤ _; omega)
    generalize hcell : (cells ++ [0]).getD (idx % max 1 (cells.length : Int)).toNat 0 = cell
    have a1 := e1 _ _ h1
    have a2 := e1 _ _ h2
    refine q_when (b := decide ((1000000000000000000 : Int) ≤ cell)) (et_test (ev_is (ev_op (ev_var rfl) (Ev.int_eq (ev_op ev_c ev_c (rv_I ⟨by decide, by decide, by decide⟩)) p10) rv_I0) rfl)) (fun hb H2 e2 => ?_) (fun hb H2 e2 => ?_)
    · have hge : (1000000000000000000 : Int) ≤ cell := by simpa using hb
      have hc0 : 0 < cells.length := by
        rcases Nat.eq_zero_or_pos cells.length with z | z
        · exfalso
          have e0 : cells = [] := List.length_eq_zero_iff.mp z
          subst e0
          have z1 : max (1 : Int) ((([] : List Int).length : Nat) : Int) = 1 := by decide
          rw [z1, Int.emod_one] at hcell
          have z2 : (([] : List Int) ++ [0]).getD (0 : Int).toNat 0 = 0 := by decide
          rw [z2] at hcell
          omega
        · exact z
      have r0 : 0 ≤ idx % (cells.length : Int) := Int.emod_nonneg _ (by omega)
      have r1 : idx % (cells.length : Int) < (cells.length : Int) := Int.emod_lt_of_pos _ (by omega)
      obtain ⟨j, hj⟩ : ∃ j : Nat, idx % (cells.length : Int) = (j : Int) := ⟨(idx % (cells.length : Int)).toNat, by omega⟩
      have b1 := e2 _ _ a1
      have b2 := e2 _ _ a2
      refine q_setL (v := .int (cell / limit)) b2 (ev_op (ev_var rfl) (ev_var rfl) (rv_I (wide_div (b := 60) p0 (by omega) (by decide) (by decide)))) (ix1 (ev_var rfl) b1) (Ev.int_eq (ev_op (ix2 (ev_var rfl) b1) (Ev.int_eq (ev_len (ix1 (ev_var rfl) b1) (sq_of b2)) hlen) (rv_I (by show (0 : Int) < _; omega))) hj) (by rw [List.length_map]; omega) fun H3 e3 => ?_
      refine s_ret (ev_op (ev_var rfl) (ev_var rfl) (rv_I p0)) fun H4 e4 => ?_
      have q3 : HS (upd H3 l (.lst ((cells.map V.int).set j (.int (cell / limit))))) a l := ⟨m, cells.set j (cell / limit), idx, by rw [upd_ne nla.symm]; exact e3 _ _ b1, by rw [upd_same, List.map_set], m0, m1, i0, by rw [List.length_set]; exact c0⟩
      exact k _ _ (Int.emod_nonneg _ (by omega)) (Int.emod_lt_of_pos _ p0) (((Dr.of hs ((e1.trans e2).trans e3)).trans (Dr.upd (.inr rfl) q3)).trans (Dr.of q3 e4))
    · have b1 := e2 _ _ a1
      have b2 := e2 _ _ a2
      have n0 : 0 ≤ (m * 48271 + cell * 69621 + 11) % 2147483647 := Int.emod_nonneg _ (by omega)
      have n1 : (m * 48271 + cell * 69621 + 11) % 2147483647 < 2147483647 := Int.emod_lt_of_pos _ (by omega)
      refine q_setL (j := 0) (v := .int ((m * 48271 + cell * 69621 + 11) % 2147483647)) b1 (ev_op (ev_op (ev_op (ev_op (ev_ixL (v := .int m) (ev_var rfl) (sq_of b1) ev_c rfl) ev_c (rv_I (wide_ok (by decide)))) (ev_op (ev_var rfl) ev_c (rv_I (wide_ok (by decide)))) rv_I0) ev_c rv_I0) ev_c (rv_I (by show (0 : Int) < 2147483647; decide))) (ev_var rfl) ev_c (by show 0 < 3; decide) fun H3 e3 => ?_
      have d1 : (upd H3 a (.lst (([.int m, .ref l, .int idx] : List V).set 0 (.int ((m * 48271 + cell * 69621 + 11) % 2147483647))))) a = some (.lst [.int ((m * 48271 + cell * 69621 + 11) % 2147483647), .ref l, .int idx]) := upd_same
      have q3 : HS (upd H3 a (.lst (([.int m, .ref l, .int idx] : List V).set 0 (.int ((m * 48271 + cell * 69621 + 11) % 2147483647))))) a l := ⟨_, cells, idx, d1, by rw [upd_ne nla]; exact e3 _ _ b2, n0, n1, i0, c0⟩
      have D3 := (Dr.of hs ((e1.trans e2).trans e3)).trans (Dr.upd (.inl rfl) q3)
      refine q_setL (j := 2) (v := .int (idx + 1)) d1 (ev_op (ix2 (ev_var rfl) d1) ev_c rv_I0) (ev_var rfl) ev_c (by show 2 < 3; decide) fun H4 e4 => ?_
      generalize upd H3 a (.lst (([.int m, .ref l, .int idx] : List V).set 0 (.int ((m * 48271 + cell * 69621 + 11) % 2147483647)))) = S3 at d1 q3 D3 e4
      have d2 : (upd H4 a (.lst (([.int ((m * 48271 + cell * 69621 + 11) % 2147483647), .ref l, .int idx] : List V).set 2 (.int (idx + 1))))) a = some (.lst [.int ((m * 48271 + cell * 69621 + 11) % 2147483647), .ref l, .int (idx + 1)]) := upd_same
      have q4 : HS (upd H4 a (.lst (([.int ((m * 48271 + cell * 69621 + 11) % 2147483647), .ref l, .int idx] : List V).set 2 (.int (idx + 1))))) a l := by
        obtain ⟨_, cells', _, _, h2', _, _, _, c0'⟩ := q3
        exact ⟨_, cells', idx + 1, d2, by rw [upd_ne nla]; exact e4 _ _ h2', n0, n1, by omega, c0'⟩
      refine s_ret (ev_op (ev_op (ev_ixL (v := .int ((m * 48271 + cell * 69621 + 11) % 2147483647)) (ev_var rfl) (sq_of d2) ev_c rfl) ev_c (rv_I (wide_div (b := 3) (by decide) (by decide) (by decide) (by decide)))) (ev_var rfl) (rv_I p0)) fun H5 e5 => ?_
      exact k _ _ (Int.emod_nonneg _ (by omega)) (Int.emod_lt_of_pos _ p0) (((D3.trans (Dr.of q3 e4)).trans (Dr.upd (.inl rfl) q4)).trans (Dr.of q4 e5))
end Sw
namespace Sw
open PySem PySem.Spec PyProof.Rows L2 Evl
local macro_rules | `(tactic| walk_at "ev") => `(tactic| first
  | exact ev_c
  | exact ev_var rfl
  | ((with_reducible show Ev (tCB rMax2 _) _ _ _); exact ev_maxi (by walk_at "ev") (by walk_at "ev"))
  | ((with_reducible show Ev (tCB rMn _) _ _ _); exact ev_min2 (by walk_at "ev") (by walk_at "ev"))
  | ((with_reducible show Ev (tUn _ _) _ _ _); exact ev_un (by walk_at "ev") ru_neg)
  | ((with_reducible show Ev (tFld _ _ _) _ _ _); exact ev_fldK (by walk_at "ev") (by assumption))
  | ((with_reducible show Ev (tOp (rI0 _) _ _) _ _ _); exact ev_op (by walk_at "ev") (by walk_at "ev") rv_I0)
  | ((with_reducible show Ev (tOp rEq _ _) _ _ _); exact ev_op (by walk_at "ev") (by walk_at "ev") (rv_eq rfl))
  | ((with_reducible show Ev (tOp rNe _ _) _ _ _); exact ev_op (by walk_at "ev") (by walk_at "ev") (rv_ne rfl)))

/-! ### evaluating while cells are drawn -/
def EvX (te : TE) (σ : L2.St) (H : Hp) (h l : Addr) (P : V → Hp → Prop) : Prop := ∀ H1, Dr h l H H1 → ∀ Q : VK, (∀ v H2, Dr h l H1 H2 → P v (wn H2 (hl h l)) → Q v H2) → te σ H1 Q
def EvI (te : TE) (σ : L2.St) (H : Hp) (h l : Addr) (A : Int → Prop) : Prop := EvX te σ H h l fun v _ => ∃ i, v = .int i ∧ A i
def EvXT (t : TT) (σ : L2.St) (H : Hp) (h l : Addr) : Prop := ∀ H1, Dr h l H H1 → ∀ Q : Bool → Hp → Prop, (∀ b H2, Dr h l H1 H2 → Q b H2) → t σ H1 Q
/-- a list, a tuple of numbers -/
def LI (A : List Int → Prop) : V → Hp → Prop := fun v G => ∃ p ns, v = .ref p ∧ G p = some (.lst (ns.map V.int)) ∧ A ns
def TI' (A : List Int → Prop) : V → Hp → Prop := fun v G => ∃ p ns, v = .ref p ∧ G p = some (.tup (ns.map V.int)) ∧ A ns
section
variable {K : PySem.W.Frag} {σ : L2.St} {H H' : Hp} {ta tb tc te tx : TE} {x y z v : V} {a h l : Addr} {xs ys : List V} {A B C D : Int → Prop} {i j : Int}
theorem hl_kind {G : Hp} {p : Addr} {o : HO} (q : HS G h l) (hp : G p = some o) (ho : ∀ ys, o ≠ .lst ys) : ¬ hl h l p := by
  obtain ⟨m, cells, idx, h1, h2, _⟩ := q
  rintro (rfl | rfl)
  · rw [h1] at hp; exact ho _ (Option.some.inj hp).symm
  · rw [h2] at hp; exact ho _ (Option.some.inj hp).symm
theorem hl_new {G G' : Hp} {p : Addr} (q : HS G h l) (hp : G p = none) : ¬ hl h l p := fun z => q.kn p z hp
theorem x_ev (hv : Ev te σ (wn H (hl h l)) v) : EvX te σ H h l (fun u _ => u = v) := fun H1 d Q q => hv H1 (d.ex.trans wn_ex) Q fun H2 e2 => q v H2 (Dr.of d.hs e2) rfl
theorem xi_ev (hv : Ev te σ (wn H (hl h l)) (.int i)) (ha : A i) : EvI te σ H h l A := fun H1 d Q q => hv H1 (d.ex.trans wn_ex) Q fun H2 e2 => q _ H2 (Dr.of d.hs e2) ⟨i, rfl, ha⟩
theorem x_evU (hv : EvU te σ (wn H (hl h l)) xs) : EvX te σ H h l (fun u G => ∃ p, u = .ref p ∧ G p = some (.tup xs)) := fun H1 d Q q =>
  hv H1 (d.ex.trans wn_ex) Q fun p H2 hp e2 h2 => q _ H2 (Dr.of d.hs e2) ⟨p, rfl, by rw [wn_ni (hl_new (G' := H2) d.hs hp)]; exact h2⟩
theorem x_evL (hv : EvL te σ (wn H (hl h l)) xs) : EvX te σ H h l (fun u G => ∃ p, u = .ref p ∧ G p = some (.lst xs)) := fun H1 d Q q =>
  hv H1 (d.ex.trans wn_ex) Q fun p H2 hp e2 h2 => q _ H2 (Dr.of d.hs e2) ⟨p, rfl, by rw [wn_ni (hl_new (G' := H2) d.hs hp)]; exact h2⟩
theorem x_evW (hv : EvW K te σ (wn H (hl h l)) xs) : EvX te σ H h l (fun u G => ∃ p, u = .ref p ∧ SqT K G p xs) := fun H1 d Q q =>
  hv H1 (d.ex.trans wn_ex) Q fun p H2 e2 h2 => q _ H2 (Dr.of d.hs e2) ⟨p, rfl, by
    have q2 := d.hs.mono e2
    rcases h2 with (z | ⟨u, z⟩) | z
    · exact .inl (.inl (by rw [wn_ni (hl_kind q2 z (fun _ q => nomatch q))]; exact z))
    · exact .inl (.inr ⟨u, by rw [wn_ni (hl_kind q2 z (fun _ q => nomatch q))]; exact z⟩)
    · exact .inr z⟩
theorem x_evR {Pr : Addr → Hp → Prop} (hv : EvR te σ (wn H (hl h l)) (hl h l) Pr) : EvX te σ H h l (fun u G => ∃ p, u = .ref p ∧ Pr p G) := fun H1 d Q q =>
  hv H1 (d.ex.trans wn_ex) d.hs.kn Q fun p H2 _ e2 hP => q _ H2 (Dr.of d.hs e2) ⟨p, rfl, hP⟩
theorem EvX.imp {P P' : V → Hp → Prop} (hv : EvX te σ H h l P) (f : ∀ v G, P v G → P' v G) : EvX te σ H h l P' := fun H1 d Q q => hv H1 d Q fun v H2 d2 p => q v H2 d2 (f _ _ p)
theorem EvX.from {P : V → Hp → Prop} (d : Dr h l H H') (hv : EvX te σ H h l P) : EvX te σ H' h l P := fun H1 d1 Q q => hv H1 (d.trans d1) Q q
theorem EvI.imp (hv : EvI te σ H h l A) (f : ∀ i, A i → B i) : EvI te σ H h l B := fun H1 d Q q => hv H1 d Q fun v H2 d2 ⟨i, e, p⟩ => q v H2 d2 ⟨i, e, f i p⟩
theorem xi_op0 {g : Int → Int → Int} (ha : EvI ta σ H h l A) (hb : EvI tb σ H h l B) (hc : ∀ i j, A i → B j → D (g i j)) : EvI (tOp (rI0 fun i j => .int (g i j)) ta tb) σ H h l D := fun H1 d Q q =>
  ha H1 d _ fun _ H2 d2 ⟨i, e, hi⟩ => hb H2 (d.trans d2) _ fun _ H3 d3 ⟨j, e', hj⟩ => ⟨i, j, e, e', q _ H3 (d2.trans d3) ⟨_, rfl, hc i j hi hj⟩⟩
theorem xi_op {R : Int → Int → Prop} {g : Int → Int → Int} (ha : EvI ta σ H h l A) (hb : EvI tb σ H h l B) (hc : ∀ i j, A i → B j → R i j ∧ D (g i j)) : EvI (tOp (rI R fun i j => .int (g i j)) ta tb) σ H h l D := fun H1 d Q q =>
  ha H1 d _ fun _ H2 d2 ⟨i, e, hi⟩ => hb H2 (d.trans d2) _ fun _ H3 d3 ⟨j, e', hj⟩ => ⟨i, j, e, e', (hc i j hi hj).1, q _ H3 (d2.trans d3) ⟨_, rfl, (hc i j hi hj).2⟩⟩
theorem xi_next {E : XK} (ha : ∀ G, Ev ta σ G (.ref h)) (hb : EvI tb σ H h l A) (hA : ∀ i, A i → 0 < i ∧ i ≤ 1000000000000000000) : EvI (tCall sp_next [] E (tCons ta (tCons tb tNil))) σ H h l (fun v => 0 ≤ v ∧ ∃ i, A i ∧ v < i) := fun H1 d Q q =>
  ha H1 H1 (Ex.refl _) _ fun H2 e2 => hb H2 (d.trans (Dr.of d.hs e2)) _ fun _ H3 d3 ⟨i, e, hi⟩ => by
    subst e
    exact ⟨h, l, i, rfl, (hA i hi).1, (hA i hi).2, d3.hs, fun v H4 v0 v1 d4 => q _ H4 (((Dr.of d.hs e2).trans d3).trans d4) ⟨v, rfl, v0, i, hi, v1⟩⟩
theorem xb_cmp {g : Int → Int → Bool} (ha : EvI ta σ H h l A) (hb : EvI tb σ H h l B) : EvX (tOp (rI0 fun i j => .bl (g i j)) ta tb) σ H h l (fun v _ => ∃ k, v = .bl k) := fun H1 d Q q =>
  ha H1 d _ fun _ H2 d2 ⟨i, e, _⟩ => hb H2 (d.trans d2) _ fun _ H3 d3 ⟨j, e', _⟩ => ⟨i, j, e, e', q _ H3 (d2.trans d3) ⟨_, rfl⟩⟩
theorem xb_eq (ha : EvI ta σ H h l A) (hb : EvI tb σ H h l B) : EvX (tOp rEq ta tb) σ H h l (fun v _ => ∃ k, v = .bl k) := fun H1 d Q q =>
  ha H1 d _ fun _ H2 d2 ⟨i, e, _⟩ => hb H2 (d.trans d2) _ fun _ H3 d3 ⟨j, e', _⟩ => by
    subst e e'
    exact ⟨rfl, q _ H3 (d2.trans d3) ⟨_, rfl⟩⟩
def rInt1 : List V → Hp → VK → Prop := fun xs H Q => (∃ i, xs = [.int i] ∧ Q (.int i) H) ∨ ∃ k, xs = [.bl k] ∧ Q (.int (if k then 1 else 0)) H
theorem xi_intb (ha : EvX ta σ H h l (fun v _ => ∃ k, v = .bl k)) : EvI (tCB rInt1 (tCons ta tNil)) σ H h l (fun i => i = 0 ∨ i = 1) := fun H1 d Q q =>
  ha H1 d _ fun _ H2 d2 ⟨k, e⟩ => .inr ⟨k, by rw [e], q _ H2 d2 ⟨_, rfl, by cases k <;> simp⟩⟩
theorem xt_test (ha : EvX ta σ H h l (fun v _ => ∃ k, v = .bl k)) : EvXT (tTest ta) σ H h l := fun H1 d Q q => ha H1 d _ fun _ H2 d2 ⟨k, e⟩ => ⟨k, e, q k H2 d2⟩
/-- [a, b][draw] -/
theorem xi_pick {n : Nat} {ns : List Int} (ha : EvL ta σ (wn H (hl h l)) (ns.map V.int)) (hb : EvI tb σ H h l B) (hn : ∀ i, B i → 0 ≤ i ∧ i < ns.length) : EvI (tOp (rIxL K) ta tb) σ H h l (fun i => i ∈ ns) := fun H1 d Q q =>
  x_evL ha H1 d _ fun _ H2 d2 ⟨p, e, hp⟩ => hb H2 (d.trans d2) _ fun _ H3 d3 ⟨j, e', hj⟩ => by
    subst e e'
    obtain ⟨j0, j1⟩ := hn j hj
    refine ⟨p, ns.map V.int, j, .int (ns.getD j.toNat 0), rfl, rfl, sq_of (wn_ex _ _ (d3.ex _ _ hp)), atI_mapI j0 j1, q _ H3 (d2.trans d3) ⟨_, rfl, ?_⟩⟩
    have hlt : j.toNat < ns.length := by omega
    have e : ns.getD j.toNat 0 = ns[j.toNat] := by simp [List.getD, hlt]
    rw [e]; exact List.getElem_mem hlt
/-- [e for i in range(n)], e drawn -/
theorem x_lcR {ta : TA} {jj : Nat} {vs : List Nat} {n : Int} (hn : EvA ta σ (wn H (hl h l)) [.int n]) (hz : 0 ≤ n ∧ n ≤ 40000) (hw : ∀ x, wipe ((wipe σ vs).set jj (some x)) vs = wipe σ vs)
    (he : ∀ (i : Nat) H1, Dr h l H H1 → (i : Int) < n → EvI te ((wipe σ vs).set jj (some (.int (i : Int)))) H1 h l A) : EvX (tLc (iRng1 ta) (gName jj) tYes te vs) σ H h l (LI fun ns => (ns.length : Int) = n ∧ ∀ x ∈ ns, A x) := fun H0 d0 Q q =>
  hn H0 (d0.ex.trans wn_ex) _ fun H1 e1 => ⟨n, rfl, by omega, by omega, fun Dl hD => by
    have d1 := Dr.of d0.hs e1
    have nD : ¬ hl h l Dl := hl_new (G' := H1) d1.hs hD
    have dn : Dr h l H1 (upd H1 Dl (.lst [])) := Dr.of d1.hs (Ex.new hD)
    refine lc_range (lo := 0) (n := n.toNat) (fun i H' => Dr h l H1 H' ∧ ∃ ns : List Int, H' Dl = some (.lst (ns.map V.int)) ∧ ns.length = i ∧ ∀ x ∈ ns, A x) ⟨dn, [], upd_same, rfl, by simp⟩ (fun i H' hi p => ?_) (fun H' p => ?_)
    · obtain ⟨d2, ns, h2, hl2, hA⟩ := p
      have e0 : (0 : Int) + (i : Int) = (i : Int) := Int.zero_add _
      show wipe ((wipe σ vs).set jj (some (.int ((0 : Int) + (i : Int))))) vs = wipe σ vs ∧ _
      refine ⟨hw _, ?_⟩
      show te ((wipe σ vs).set jj (some (.int ((0 : Int) + (i : Int))))) H' _
      rw [e0]
      refine he i H' ((d0.trans d1).trans d2) (by omega) H' (Dr.refl d2.hs) _ fun v H3 d3 hv => ?_
      obtain ⟨k, rfl, hk⟩ := hv
      have h3 : H3 Dl = some (.lst (ns.map V.int)) := wn_ex _ _ (d3.ex _ _ (by rw [wn_ni nD]; exact h2))
      have d5 : Dr h l H1 (upd H3 Dl (.lst (ns.map V.int ++ [.int k]))) := ⟨by
        obtain ⟨m, cells, idx, a1, a2, r⟩ := d3.hs
        exact ⟨m, cells, idx, by rw [upd_ne (fun z => nD (.inl z.symm))]; exact a1, by rw [upd_ne (fun z => nD (.inr z.symm))]; exact a2, r⟩, fun b u hb => by
        obtain ⟨q1, q2⟩ := wn_some hb
        have z := wn_ex _ _ ((d2.trans d3).ex b u hb)
        rw [wn_ni q1, upd_ne (ne_of_none q2 hD)]
        exact z⟩
      refine ⟨_, h3, by rw [List.length_map]; exact sz_lt (by omega), d5, ns ++ [k], by rw [upd_same, List.map_append]; rfl, by rw [List.length_append, hl2]; rfl, fun x hx => ?_⟩
      rcases List.mem_append.mp hx with z | z
      · exact hA x z
      · rw [List.mem_singleton.mp z]; exact hk
    · obtain ⟨d2, ns, h2, hl2, hA⟩ := p
      exact q _ H' (d1.trans d2) ⟨Dl, ns, rfl, by rw [wn_ni nD]; exact h2, by omega, hA⟩⟩
/-- statements whose values are drawn -/
theorem x_ret {P : V → Hp → Prop} {D : Ends} (hs : HS H h l) (hx : EvX te σ H h l P) (k : ∀ v H2, Dr h l H H2 → P v (wn H2 (hl h l)) → D.rt v H2) : tRet te D σ H := hx H (Dr.refl hs) _ k
theorem x_asgG {P : V → Hp → Prop} {D : Ends} {tz : TS} {g : TG} (hs : HS H h l) (hx : EvX te σ H h l P) (k : ∀ v H2, Dr h l H H2 → P v (wn H2 (hl h l)) → g v σ H2 (tz D)) : tSeq (tAsg te g) tz D σ H := hx H (Dr.refl hs) _ k
theorem x_asg {P : V → Hp → Prop} {D : Ends} {tz : TS} {n : Nat} (hs : HS H h l) (hx : EvX te σ H h l P) (k : ∀ v H2, Dr h l H H2 → P v (wn H2 (hl h l)) → tz D (σ.set n (some v)) H2) : tSeq (tAsg te (gName n)) tz D σ H := hx H (Dr.refl hs) _ k
theorem x_asgI {D : Ends} {tz : TS} {n : Nat} (hs : HS H h l) (hx : EvI te σ H h l A) (k : ∀ i H2, Dr h l H H2 → A i → tz D (σ.set n (some (.int i))) H2) : tSeq (tAsg te (gName n)) tz D σ H := hx H (Dr.refl hs) _ fun _ H2 d ⟨i, e, p⟩ => by subst e; exact k i H2 d p
theorem x_par {P Q : V → Hp → Prop} {D : Ends} {tz : TS} {m n : Nat} (hs : HS H h l) (hx : EvX ta σ H h l P) (hy : EvX tb σ H h l Q) (k : ∀ v w H1 H2, Dr h l H H1 → Dr h l H1 H2 → P v (wn H1 (hl h l)) → Q w (wn H2 (hl h l)) → tz D ((σ.set m (some v)).set n (some w)) H2) : tSeq (tPar m n (tCons ta (tCons tb tNil))) tz D σ H :=
  hx H (Dr.refl hs) _ fun v H1 d1 p1 => hy H1 d1 _ fun w H2 d2 p2 => ⟨v, w, rfl, k v w H1 H2 d1 d2 p1 p2⟩
theorem x_if {D : Ends} {tt : TT} {tu tw tz : TS} (hs : HS H h l) (hx : EvXT tt σ H h l) (h1 : ∀ H2, Dr h l H H2 → tu { D with nx := tz D } σ H2) (h2 : ∀ H2, Dr h l H H2 → tw { D with nx := tz D } σ H2) : tSeq (tIfS tt tu tw) tz D σ H := hx H (Dr.refl hs) _ fun b H2 d => by
  cases b with
  | true => exact h1 H2 d
  | false => exact h2 H2 d
theorem x_ifK {M : L2.St → Hp → Prop} {D : Ends} {tt : TT} {tu tw tz : TS} (hs : HS H h l) (hx : EvXT tt σ H h l) (fin : ∀ σ' H', M σ' H' → tz D σ' H') (h1 : ∀ H2, Dr h l H H2 → (∀ σ' H', M σ' H' → tz D σ' H') → tu { D with nx := tz D } σ H2)
    (h2 : ∀ H2, Dr h l H H2 → (∀ σ' H', M σ' H' → tz D σ' H') → tw { D with nx := tz D } σ H2) : tSeq (tIfS tt tu tw) tz D σ H := x_if hs hx (fun H2 d => h1 H2 d fin) (fun H2 d => h2 H2 d fin)
/-- a call all of whose arguments are drawn: the first ones plain -/
theorem x_call3 {sp : Sp} {E : XK} {P : V → Hp → Prop} {u : V} (ha : ∀ G, Ev ta σ G u) (hb : EvI tb σ H h l A) (hc : EvI tc σ H h l B) (hp : ∀ i j H1, A i → B j → Dr h l H H1 → ∀ Q : VK, (∀ v H2, Dr h l H1 H2 → P v (wn H2 (hl h l)) → Q v H2) → sp [u, .int i, .int j] H1 Q E) :
    EvX (tCall sp [] E (tCons ta (tCons tb (tCons tc tNil)))) σ H h l P := fun H1 d Q q =>
  ha H1 H1 (Ex.refl _) _ fun H2 e2 => hb H2 (d.trans (Dr.of d.hs e2)) _ fun _ H3 d3 ⟨i, e, hi⟩ => hc H3 ((d.trans (Dr.of d.hs e2)).trans d3) _ fun _ H4 d4 ⟨j, e', hj⟩ => by
    subst e e'
    exact hp i j H4 hi hj (((d.trans (Dr.of d.hs e2)).trans d3).trans d4) Q fun v H5 d5 p => q v H5 ((((Dr.of d.hs e2)).trans d3).trans (d4.trans d5)) p
theorem x_tupL {A : List Int → Prop} (ha : EvX ta σ H h l (LI A)) : EvX (tCB (rTupS K) (tCons ta tNil)) σ H h l (TI' A) := fun H1 d Q q =>
  ha H1 d _ fun _ H2 d2 ⟨p, ns, e, hp, hA⟩ => ⟨p, ns.map V.int, by rw [e], .inl ⟨sq_of (wn_ex _ _ hp), fun t ht => by
    have d3 := Dr.of d2.hs (Ex.new (o := .tup (ns.map V.int)) ht)
    exact q _ _ (d2.trans d3) ⟨t, ns, rfl, by rw [wn_ni (hl_new (G' := H2) d2.hs ht)]; exact upd_same, hA⟩⟩⟩
theorem ew_cat (ha : EvW K ta σ H xs) (hb : EvW K tb σ H ys) (hz : xs.length + ys.length ≤ 100000) : EvW K (tOp (rCatA K) ta tb) σ H (xs ++ ys) := fun H1 e Q q =>
  ha H1 e _ fun p H2 e2 h2 => hb H2 (e.trans e2) _ fun r H3 e3 h3 => ⟨p, r, xs, ys, rfl, rfl, ex_t e3 h2, h3, sz_of hz,
    fun z => q r H3 (e2.trans e3) (by rw [z]; exact h3), fun _ z => q p H3 (e2.trans e3) (by rw [z, List.append_nil]; exact ex_t e3 h2),
    fun _ _ t ht => q t _ ((e2.trans e3).trans (Ex.new ht)) (st_of upd_same)⟩
theorem ew_drop {tl : TE} {k : Nat} (ha : EvW K te σ H xs) (hk : Ev tl σ H (.int (k : Int))) : EvW K (tSl (rSlA K) te (tPart tl) tNoPart) σ H (xs.drop k) := fun H1 e Q q =>
  ha H1 e _ fun p H2 e2 h2 => hk H2 (e.trans e2) _ fun H3 e3 => ⟨(k : Int), rfl, p, xs, rfl, ex_t e3 h2, fun w => by
      have hi : min k xs.length = 0 := by rw [← HT.sIx_nat xs.length 0 k]; exact w.1
      have t : xs.drop k = xs := by
        rcases Nat.eq_zero_or_pos k with z | z
        · rw [z]; rfl
        · have : xs.length = 0 := by omega
          rw [List.length_eq_zero_iff.mp this]; simp
      rw [t] at q
      exact q p H3 (e2.trans e3) (ex_t e3 h2), fun _ r hr => by
      refine q r _ ((e2.trans e3).trans (Ex.new hr)) (st_of ?_)
      rw [upd_same]
      unfold cutV
      rw [HT.sIx_none, HT.sIx_nat]
      congr 2
      by_cases hk : k ≤ xs.length
      · rw [Nat.min_eq_left hk, List.take_of_length_le (by simp)]
      · rw [Nat.min_eq_right (by omega)]
        simp [List.drop_eq_nil_of_le (Nat.le_of_not_le hk)]⟩
end
variable {P : Program} {w : World} {K : PySem.W.Frag} {mg : Str → Option Value} {base : Heap} {Z : Ad}
/-! ### _law_mix, _law_amounts, _law_parts -/
def sp_mix (K : PySem.W.Frag) : Sp := fun vs H Q _ => ∃ (a : Addr) (ns : List Int) (seed : Int), vs = [.ref a, .int seed] ∧ SqL K H a (ns.map V.int) ∧ ns.length ≤ 63 ∧ 0 ≤ seed ∧ seed < 2147483647 ∧
  ∀ h l H', H h = none → H l = none → Ex H H' → HS H' h l → Q (.ref h) H'
theorem ok__law_mix (T : Txt K mg Z) : FnOk P w K mg base CX0 1 Z.f__law_mix Z.d__law_mix p__law_mix (sp_mix K) := by
  refine T.F__law_mix.ok sc__law_mix (fun vs H Q E h => ?_) (fun cdv Ar outer s H vs Q E hr h => ?_)
  · obtain ⟨a, ns, seed, rfl, _⟩ := h
    rfl
  · obtain ⟨a, ns, seed, rfl, hS, hn, s0, s1, k⟩ := h
    refine ⟨_, (pss_cons (ps_set (i := 2) sc__law_mix.nd rfl (Or.inl rfl) (pv 1))
      (pss_cons (ps_for PassesOwn.never rfl (pi_listK K rfl (pv 0)) (pg_name (i := 3) sc__law_mix.nd rfl (Or.inl rfl)) (pss_one (ps_set (i := 2) sc__law_mix.nd rfl (Or.inl rfl) (pe_op op_mod (pe_op op_add (pe_op op_add (pe_op op_mul (pv 2) pe_int) (pe_op op_mod (pv 3) pe_int)) pe_int) pe_int))))
      (pss_one (ps_ret (pe_lst (pa_cons (pv 2) (pa_cons (pe_callTy (r := rListS K) (call_list_of) (by rfl) T.b_list boot_list (pa_cons (pv 0) pa_nil)) (pa_cons pe_int pa_nil)))))))), ?_⟩
    refine q_asg (ev_var rfl) fun H1 e1 => ?_
    refine q_forLn (ev_var rfl) (ex_l e1 hS) (fun i σ' H' => (∃ m x, σ' = [some (.ref a), some (.int seed), some (.int m), x] ∧ 0 ≤ m ∧ m < 2147483647) ∧ Ex H H') (fun H2 e2 => ⟨⟨seed, _, rfl, s0, s1⟩, e1.trans e2⟩) (fun i σ' H' _ p => ex_l p.2 hS) ?_ ?_
    · rintro i x σ' H' hx ⟨⟨m, _, rfl, m0, m1⟩, e2⟩
      obtain ⟨rfl, hi⟩ := at_map hx
      refine s_asg (ev_op (ev_op (ev_op (ev_op (ev_var rfl) ev_c (rv_I (wide_ok (by decide)))) (ev_op (ev_var rfl) ev_c (rv_I (by show (0 : Int) < 2147483629; decide))) rv_I0) ev_c rv_I0) ev_c (rv_I (by show (0 : Int) < 2147483647; decide))) fun H2 e3 => ?_
      exact ⟨⟨_, _, rfl, Int.emod_nonneg _ (by decide), Int.emod_lt_of_pos _ (by decide)⟩, e2.trans e3⟩
    · rintro σ' H' ⟨⟨m, _, rfl, m0, m1⟩, e2⟩
      have hS' := ex_l e2 hS
      refine ⟨.int m, rfl, ?_⟩
      refine el_list (ev_var (i := 0) rfl) hS' H' (Ex.refl _) _ fun p H3 hp e4 h3 => ?_
      refine ⟨by show 3 ≤ sizeLine; decide, fun r hr => ?_⟩
      have np : p ≠ r := ne_of_none h3 hr
      refine k r p _ (fresh_back (e2.trans e4) hr) (fresh_back e2 hp) ((e2.trans e4).trans (Ex.new hr)) ⟨m, ns, 0, upd_same, by rw [upd_ne np]; exact h3, m0, m1, by decide, hn⟩
def sp_lawamounts : Sp := fun vs H Q _ => ∃ (h l : Addr) (count wide : Int), vs = [.ref h, .int count, .int wide] ∧ 0 ≤ count ∧ count ≤ 1000 ∧ 0 < wide ∧ wide ≤ 1000000000 ∧ HS H h l ∧
  ∀ (p : Addr) (ns : List Int) (H' : Hp), Dr h l H H' → wn H' (hl h l) p = some (.tup (ns.map V.int)) → (ns.length : Int) = count → (∀ x ∈ ns, 0 ≤ x ∧ x < wide) → Q (.ref p) H'
theorem ok__law_amounts (T : Txt K mg Z) : FnOk P w K mg base CX0 2 Z.f__law_amounts Z.d__law_amounts p__law_amounts sp_lawamounts := by
  refine T.F__law_amounts.ok sc__law_amounts (fun vs H Q E h => ?_) (fun cdv Ar outer s H vs Q E hr h => ?_)
  · obtain ⟨a, l, count, wide, rfl, _⟩ := h
    rfl
  · obtain ⟨a, l, count, wide, rfl, c0, c1, w0, w1, hs, k⟩ := h
    refine ⟨_, (pss_one (ps_ret (pe_callTy (r := rTupS K) (call_tuple_of) (by rfl) T.b_tuple boot_tuple (pa_cons (pe_lc (own := [("_law_k", 3)]) rfl sc__law_amounts.nd (pi_range1 (by rfl) T.b_range (pa_cons (pv 1) pa_nil)) (blkOk_by (own := [("_law_k", 3)]) (N := n__law_amounts) (sc := defScope s__law_amounts) (scope := { kind := PySem.ScopeKind.function, names := [ (PySem.Str.ofString ".0", PySem.NameKind.local), (PySem.Str.ofString "_law_k", PySem.NameKind.local), (PySem.Str.ofString "_law_next", PySem.NameKind.globalImplicit), (PySem.Str.ofString "int", PySem.NameKind.globalImplicit), (PySem.Str.ofString "_law_h", PySem.NameKind.free), (PySem.Str.ofString "_law_wide", PySem.NameKind.free)], isGenerator := false, isCoroutine := false, more := [] : PySem.Scope }) (by decide +kernel)) (fun _ _ _ _ _ => (pg_name (i := 3) sc__law_amounts.nd rfl (Or.inl rfl))) (fun _ _ _ _ _ => pts_nil) (fun _ _ _ _ _ => (pe_op op_mul (pe_call (ok__law_next T) (hr.mono (by decide)) (by rfl) T.g__law_next T.F__law_next.kp T.b__law_next .nil pass0 (pa_cons (pv 0) (pa_cons (pv 2) pa_nil))) (pe_callTy (r := rInt1) (call_int1) (by rfl) T.b_int boot_int (pa_cons (pe_cmpR op_gt (pe_call (ok__law_next T) (hr.mono (by decide)) (by rfl) T.g__law_next T.F__law_next.kp T.b__law_next .nil pass0 (pa_cons (pv 0) (pa_cons pe_int pa_nil))) pe_int (nomark _)) pa_nil))))) pa_nil)))), ?_⟩
    have hx : EvX _ _ H a l (TI' fun ns => (ns.length : Int) = count ∧ ∀ x ∈ ns, 0 ≤ x ∧ x < wide) := x_tupL (K := K) (x_lcR (jj := 3) (vs := [3]) (n := count) (σ := [some (.ref a), some (.int count), some (.int wide), none]) (ea_cons (ev_var (i := 1) rfl) ea_nil) ⟨c0, by omega⟩ (fun _ => rfl) fun i H1 d1 hi =>
      xi_op (A := fun v => 0 ≤ v ∧ v < wide) (B := fun i => i = 0 ∨ i = 1) ((xi_next (E := E0) (A := fun i => i = wide) (fun G => ev_var (i := 0) rfl) (xi_ev (ev_var (i := 2) rfl) rfl) (fun i e => by omega)).imp fun v q => ⟨q.1, by obtain ⟨i, e, q⟩ := q.2; omega⟩)
        (xi_intb (xb_cmp (g := fun i j => decide (j < i)) (A := fun _ => True) (B := fun _ => True) ((xi_next (E := E0) (A := fun i => i = 4) (fun G => ev_var (i := 0) rfl) (xi_ev ev_c rfl) (fun i e => by omega)).imp fun _ _ => trivial) (xi_ev (i := 0) ev_c trivial)))
        (R := CMul) (g := fun i j => i * j) fun i j hi hj => ⟨by rcases hj with rfl | rfl <;> exact .inr (by decide), by rcases hj with rfl | rfl <;> simp <;> omega⟩)
    exact hx H (Dr.refl hs) _ fun v H2 d2 ⟨p, ns, e, hp, hl', hA⟩ => by
      subst e
      exact k p ns H2 d2 hp hl' hA
theorem x_amounts {σ : L2.St} {H : Hp} {h l : Addr} {ta tb tc : TE} {E : XK} {n w : Int} (ha : ∀ G, Ev ta σ G (.ref h)) (hb : Ev tb σ (wn H (hl h l)) (.int n)) (hc : Ev tc σ (wn H (hl h l)) (.int w)) (n0 : 0 ≤ n) (n1 : n ≤ 1000) (w0 : 0 < w) (w1 : w ≤ 1000000000) :
    EvX (tCall sp_lawamounts [] E (tCons ta (tCons tb (tCons tc tNil)))) σ H h l (TI' fun ns => (ns.length : Int) = n ∧ ∀ x ∈ ns, 0 ≤ x ∧ x < w) :=
  x_call3 (A := fun i => i = n) (B := fun j => j = w) ha (xi_ev hb rfl) (xi_ev hc rfl) fun i j H1 ei ej d1 Q q => by
    subst ei ej
    exact ⟨h, l, i, j, rfl, n0, n1, w0, w1, d1.hs, fun p ns H2 d2 hp e1 e2 => q _ H2 d2 ⟨p, ns, rfl, hp, e1, e2⟩⟩
theorem getD_le_sum {xs : List Int} (h : ∀ x ∈ xs, 0 ≤ x) (i : Nat) : xs.getD i 0 ≤ xs.sum := by
  induction xs generalizing i with
  | nil => simp
  | cons a r ih =>
    have h0 := h a (by simp)
    have hr : ∀ x ∈ r, 0 ≤ x := fun x hx => h x (by simp [hx])
    have s0 : 0 ≤ r.sum := by
      clear ih h
      induction r with
      | nil => simp
      | cons b r ih2 => rw [List.sum_cons]; have := hr b (by simp); have := ih2 fun x hx => hr x (by simp [hx]); omega
    cases i with
    | zero => rw [List.sum_cons, List.getD_cons_zero]; omega
    | succ i => rw [List.sum_cons, List.getD_cons_succ]; have := ih hr i; omega
/-- what is drawn for a bakery -/
structure Parts (K : PySem.W.Frag) (G : Hp) (pb pd : Addr) (bs ds : List Int) (life most wide : Int) : Prop where
  hb : SqT K G pb (bs.map V.int)
  hd : SqT K G pd (ds.map V.int)
  gd : Good bs ds
  ml : (bs.length : Int) ≤ most
  bw : ∀ x ∈ bs, x ≤ 25 * wide
  dw : ∀ x ∈ ds, x ≤ 25 * wide
  l0 : 1 ≤ life
  l1 : life ≤ 30
def sp_parts (K : PySem.W.Frag) : Sp := fun vs H Q _ => ∃ (h l : Addr) (most wide : Int), vs = [.ref h, .int most, .int wide] ∧ 1 ≤ most ∧ most ≤ 24 ∧ 1 ≤ wide ∧ wide ≤ 1000000000 ∧ HS H h l ∧
  ∀ (p pb pd : Addr) (bs ds : List Int) (life : Int) (H' : Hp), Dr h l H H' → wn H' (hl h l) p = some (.tup [.ref pb, .ref pd, .int life]) → Parts K (wn H' (hl h l)) pb pd bs ds life most wide → Q (.ref p) H'
theorem ok__law_parts (T : Txt K mg Z) : FnOk P w K mg base CX0 3 Z.f__law_parts Z.d__law_parts p__law_parts (sp_parts K) := by
  refine T.F__law_parts.ok sc__law_parts (fun vs H Q E h => ?_) (fun cdv Ar outer s H vs Q E hr h => ?_)
  · obtain ⟨a, l, most, wide, rfl, _⟩ := h
    rfl
  · obtain ⟨a, l, most, wide, rfl, m0, m1, w0, w1, hs, k⟩ := h
    refine ⟨_, (pss_cons (ps_set (i := 3) sc__law_parts.nd rfl (Or.inl rfl) (pe_op op_add pe_int (pe_call (ok__law_next T) (hr.mono (by decide)) (by rfl) T.g__law_next T.F__law_next.kp T.b__law_next .nil pass0 (pa_cons (pv 0) (pa_cons (pv 1) pa_nil)))))
      (pss_cons (ps_par (i := 4) (j := 5) rfl sc__law_parts.nd rfl rfl (by decide) rfl rfl (pa_cons (pe_call (ok__law_amounts T) (hr.mono (by decide)) (by rfl) T.g__law_amounts T.F__law_amounts.kp T.b__law_amounts .nil pass0 (pa_cons (pv 0) (pa_cons (pv 3) (pa_cons (pv 2) pa_nil)))) (pa_cons (pe_call (ok__law_amounts T) (hr.mono (by decide)) (by rfl) T.g__law_amounts T.F__law_amounts.kp T.b__law_amounts .nil pass0 (pa_cons (pv 0) (pa_cons (pv 3) (pa_cons (pv 2) pa_nil)))) pa_nil)) (by rfl))
      (pss_cons (ps_if (pt_cmpR op_eq (pe_call (ok__law_next T) (hr.mono (by decide)) (by rfl) T.g__law_next T.F__law_next.kp T.b__law_next .nil pass0 (pa_cons (pv 0) (pa_cons pe_int pa_nil))) pe_int (nomark _)) (pss_cons (ps_par (i := 6) (j := 7) rfl sc__law_parts.nd rfl rfl (by decide) rfl rfl (pa_cons (pe_call (ok__law_next T) (hr.mono (by decide)) (by rfl) T.g__law_next T.F__law_next.kp T.b__law_next .nil pass0 (pa_cons (pv 0) (pa_cons (pv 3) pa_nil))) (pa_cons (pe_op op_add (pe_op op_sub (pe_callB (r := rSumT K) (cr_sumT rfl) (by rfl) T.b_sum boot_sum (pa_cons (pv 5) pa_nil)) (pe_callB (r := rSumT K) (cr_sumT rfl) (by rfl) T.b_sum boot_sum (pa_cons (pv 4) pa_nil))) (pe_call (ok__law_next T) (hr.mono (by decide)) (by rfl) T.g__law_next T.F__law_next.kp T.b__law_next .nil pass0 (pa_cons (pv 0) (pa_cons pe_int pa_nil)))) pa_nil)) (by rfl))
      (pss_one (ps_set (i := 4) sc__law_parts.nd rfl (Or.inl rfl) (pe_op op_catA (pe_op op_catA (pe_slice (r := rSlA K) sl_tupA (pv 4) po_none (po_some (pv 6))) (pe_tup (pa_cons (pe_callB (r := rMax2) (call_max2 rfl) (by rfl) T.b_max boot_max (pa_cons pe_int (pa_cons (pe_callB (r := rMn) (call_min2 rfl) (by rfl) T.b_min boot_min (pa_cons (pe_op op_pow pe_int pe_int) (pa_cons (pe_op op_add (pe_ix (r := rIxT K) ix_tup (pv 4) (pv 6) (fun _ _ => rfl)) (pv 7)) pa_nil))) pa_nil))) pa_nil))) (pe_slice (r := rSlA K) sl_tupA (pv 4) (po_some (pe_op op_add (pv 6) pe_int)) po_none))))) pss_nil)
      (pss_one (ps_ret (pe_tup (pa_cons (pv 4) (pa_cons (pv 5) (pa_cons (pe_op op_add pe_int (pe_call (ok__law_next T) (hr.mono (by decide)) (by rfl) T.g__law_next T.F__law_next.kp T.b__law_next .nil pass0 (pa_cons (pv 0) (pa_cons (pe_ix (r := rIxL K) ix_list (pe_lst (pa_cons pe_int (pa_cons pe_int pa_nil))) (pe_call (ok__law_next T) (hr.mono (by decide)) (by rfl) T.g__law_next T.F__law_next.kp T.b__law_next .nil pass0 (pa_cons (pv 0) (pa_cons pe_int pa_nil))) (fun _ _ => rfl)) pa_nil)))) pa_nil))))))))), ?_⟩
    -- the count
    refine x_asgI (A := fun c => 1 ≤ c ∧ c ≤ most) hs (xi_op0 (g := fun i j => i + j) (A := fun i => i = 1) (B := fun i => 0 ≤ i ∧ i < most) (xi_ev ev_c rfl) ((xi_next (A := fun i => i = most) (fun G => ev_var rfl) (xi_ev (ev_var rfl) rfl) (fun i e => by omega)).imp fun v q => ⟨q.1, by obtain ⟨i, e, q⟩ := q.2; omega⟩) (fun i j hi hj => by omega)) fun c H1 d1 hc => ?_
    -- bakes, demands
    refine x_par d1.hs (x_amounts (n := c) (w := wide) (fun G => ev_var rfl) (ev_var rfl) (ev_var rfl) (by omega) (by omega) (by omega) w1) (x_amounts (n := c) (w := wide) (fun G => ev_var rfl) (ev_var rfl) (ev_var rfl) (by omega) (by omega) (by omega) w1) fun v v' H2 H3 d2 d3 ⟨pb, bs, e, hb, lb, bb⟩ ⟨pd, ds, e', hd, ld, dd⟩ => ?_
    subst e e'
    have hb3 := st_of (K := K) (d3.ex _ _ hb)
    have hd3 := st_of (K := K) hd
    have D3 := (d1.trans d2).trans d3
    have sd := sum_bound (xs := ds) (M := wide - 1) (by omega) (fun x hx => by have := dd x hx; omega)
    have sd2 : (ds.length : Int) * (wide - 1) ≤ 24 * (wide - 1) := Int.mul_le_mul_of_nonneg_right (by omega) (by omega)
    refine x_ifK (M := fun σ' H' => ∃ (pb' : Addr) (bs' : List Int) (u v : Option V), σ' = [some (.ref a), some (.int most), some (.int wide), some (.int c), some (.ref pb'), some (.ref pd), u, v] ∧ Dr a l H H' ∧ SqT K (wn H' (hl a l)) pb' (bs'.map V.int) ∧ SqT K (wn H' (hl a l)) pd (ds.map V.int) ∧
      (bs'.length : Int) = c ∧ ∀ x ∈ bs', 0 ≤ x ∧ x ≤ 1000000000 ∧ x ≤ 25 * wide) d3.hs (xt_test (xb_eq (A := fun _ => True) (B := fun _ => True) ((xi_next (A := fun i => i = 3) (fun G => ev_var rfl) (xi_ev ev_c rfl) (fun i e => by omega)).imp fun _ _ => trivial) (xi_ev (i := 0) ev_c trivial))) ?_ (fun H4 d4 fin => ?_) (fun H4 d4 fin => ?_)
    · rintro σ' H' ⟨pb', bs', u, v, rfl, dD, hb', hd', lb', bb'⟩
      refine ⟨_, rfl, _, rfl, ?_⟩
      refine xi_op0 (g := fun i j => i + j) (A := fun i => i = 1) (B := fun i => 0 ≤ i ∧ i < 30) (D := fun i => 1 ≤ i ∧ i ≤ 30) (xi_ev ev_c rfl) ((xi_next (A := fun i => i ∈ ([4, 30] : List Int)) (fun G => ev_var (i := 0) rfl) (xi_pick (K := K) (n := 2) (ns := [4, 30]) (B := fun i => 0 ≤ i ∧ i < 2) (el_lst (ea_cons ev_c (ea_cons ev_c ea_nil)) (by show 2 ≤ 100000; decide)) ((xi_next (A := fun i => i = 2) (fun G => ev_var (i := 0) rfl) (xi_ev ev_c rfl) (fun i e => by omega)).imp fun v q => ⟨q.1, by obtain ⟨i, e, q⟩ := q.2; omega⟩) (fun i q => by simpa using q)) (fun i hi => by simp at hi; omega)).imp fun v q => ⟨q.1, by obtain ⟨i, e, q⟩ := q.2; simp at e; omega⟩) (fun i j hi hj => by omega) H' (Dr.refl dD.hs) _ fun _ H7 d7 ⟨lf, e7, l7⟩ => ?_
      subst e7
      refine ⟨by show 3 ≤ sizeLine; decide, fun r hr => ?_⟩
      have d8 := Dr.of d7.hs (Ex.new (o := .tup [.ref pb', .ref pd, .int lf]) hr)
      have w78 := (d7.trans d8).ex
      refine k r pb' pd bs' ds lf _ (dD.trans (d7.trans d8)) (by rw [wn_ni (hl_new (G' := H7) d7.hs hr)]; exact upd_same) ⟨ex_t w78 hb', ex_t w78 hd', ⟨by omega, by omega, by omega, fun x hx => ⟨(bb' x hx).1, (bb' x hx).2.1⟩, fun x hx => by have := dd x hx; omega⟩, by omega, fun x hx => (bb' x hx).2.2, fun x hx => by have := dd x hx; omega, l7.1, l7.2⟩
    · have D4 := D3.trans d4
      have hb4 := ex_t d4.ex hb3
      have hd4 := ex_t d4.ex hd3
      refine x_par (P := fun v _ => ∃ i, v = .int i ∧ 0 ≤ i ∧ i < c) (Q := fun v _ => ∃ i, v = .int i ∧ i ≤ ds.sum - bs.sum + 2) d4.hs ((xi_next (A := fun i => i = c) (fun G => ev_var rfl) (xi_ev (ev_var rfl) rfl) (fun i e => by omega)).imp fun v q => ⟨q.1, by obtain ⟨i, e, q⟩ := q.2; omega⟩)
        (xi_op0 (g := fun i j => i + j) (A := fun i => i = ds.sum - bs.sum) (B := fun i => i < 3) (xi_ev (ev_op (ev_sumT (ev_var rfl) hd4) (ev_sumT (ev_var rfl) hb4) rv_I0) rfl) ((xi_next (A := fun i => i = 3) (fun G => ev_var rfl) (xi_ev ev_c rfl) (fun i e => by omega)).imp fun v q => by obtain ⟨i, e, q⟩ := q.2; omega) (fun i j hi hj => by omega)) fun v w H5 H6 d5 d6 ⟨kk, e5, k0, k1⟩ ⟨mo, e6, hmo⟩ => ?_
      subst e5 e6
      have D6 := D4.trans (d5.trans d6)
      have hb6 := ex_t (d5.trans d6).ex hb4
      have hd6 := ex_t (d5.trans d6).ex hd4
      obtain ⟨kn, rfl⟩ : ∃ kn : Nat, kk = (kn : Int) := ⟨kk.toNat, by omega⟩
      have p9 : (10 : Int) ^ (9 : Int).toNat = 1000000000 := by decide
      have hW := x_evW (K := K) (H := H6) (h := a) (l := l) (σ := [some (.ref a), some (.int most), some (.int wide), some (.int c), some (.ref pb), some (.ref pd), some (.int (kn : Int)), some (.int mo)])
        (ew_cat (ew_cat (ew_take (k := kn) (ew_of (ev_var (i := 4) rfl) hb6) (ev_var (i := 6) rfl)) (EvU.w (eu_tup (ea_cons (ev_maxi (i := 0) ev_c (ev_min2 (Ev.int_eq (ev_op (x := .int 10) (y := .int 9) ev_c ev_c (rv_I (C := CPow) (g := fun i j => .int (i ^ j.toNat)) ⟨by decide, by decide, by decide⟩)) p9) (ev_op (ev_ixT (K := K) (ev_var (i := 4) rfl) hb6 (ev_var (i := 6) rfl) (atI_mapI (by omega) (by omega))) (ev_var (i := 7) rfl) (rv_I0 (g := fun i j => .int (i + j)))))) ea_nil) (by show 1 ≤ 100000; decide))) (by simp; omega))
          (ew_drop (k := kn + 1) (ew_of (ev_var (i := 4) rfl) hb6) (Ev.int_eq (ev_op (ev_var (i := 6) rfl) (ev_c (v := .int 1)) (rv_I0 (g := fun i j => .int (i + j)))) (by omega))) (by simp; omega))
      refine hW H6 (Dr.refl d6.hs) _ fun v H7 d7 ⟨pb', e7, hb7⟩ => ?_
      subst e7
      have nb : bs.sum ≥ bs.getD kn 0 := getD_le_sum (fun x hx => (bb x hx).1) kn
      refine fin _ _ ⟨pb', bs.take kn ++ [max 0 (min 1000000000 (bs.getD kn 0 + mo))] ++ bs.drop (kn + 1), _, _, rfl, D6.trans d7, ?_, ex_t d7.ex hd6, ?_, ?_⟩
      · have z := hb7
        rw [← List.map_take, ← List.map_drop, Int.toNat_natCast] at z
        simpa using z
      · simp; omega
      · intro x hx
        rcases List.mem_append.mp hx with hx | hx
        · rcases List.mem_append.mp hx with hx | hx
          · have := bb x (List.mem_of_mem_take hx); omega
          · rw [List.mem_singleton.mp hx]; omega
        · have := bb x (List.mem_of_mem_drop hx); omega
    · exact fin _ _ ⟨pb, bs, _, _, rfl, D3.trans d4, ex_t d4.ex hb3, ex_t d4.ex hd3, lb, fun x hx => by have := bb x hx; omega⟩
end Sw
namespace Sw
open PySem PySem.Spec PyProof.Rows L2 Evl
local macro_rules | `(tactic| walk_at "ev") => `(tactic| first
  | exact ev_c
  | exact ev_var rfl
  | ((with_reducible show Ev (tCB rMax2 _) _ _ _); exact ev_maxi (by walk_at "ev") (by walk_at "ev"))
  | ((with_reducible show Ev (tCB rMn _) _ _ _); exact ev_min2 (by walk_at "ev") (by walk_at "ev"))
  | ((with_reducible show Ev (tUn _ _) _ _ _); exact ev_un (by walk_at "ev") ru_neg)
  | ((with_reducible show Ev (tFld _ _ _) _ _ _); exact ev_fldK (by walk_at "ev") (by assumption))
  | ((with_reducible show Ev (tOp (rI0 _) _ _) _ _ _); exact ev_op (by walk_at "ev") (by walk_at "ev") rv_I0)
  | ((with_reducible show Ev (tOp rEq _ _) _ _ _); exact ev_op (by walk_at "ev") (by walk_at "ev") (rv_eq rfl))
  | ((with_reducible show Ev (tOp rNe _ _) _ _ _); exact ev_op (by walk_at "ev") (by walk_at "ev") (rv_ne rfl)))

/-! ### isinstance, and two values that are alike -/
def Tyn (K : PySem.W.Frag) (H : Hp) (x : V) (n : String) : Prop := (∃ i, x = .int i ∧ n = "int") ∨ (x = .non ∧ n = "NoneType") ∨ (∃ a xs, x = .ref a ∧ SqT K H a xs ∧ n = "tuple") ∨ (∃ a xs, x = .ref a ∧ SqL K H a xs ∧ n = "list") ∨ (∃ st : Str, x = .str st ∧ n = "str")
section
variable {K : PySem.W.Frag} {σ : L2.St} {H H' : Hp} {ta tb te tx : TE} {x y z v : V} {a b : Addr} {xs ys : List V} {n m : String} {r : Bool}
theorem Tyn.mono (e : Ex H H') (h : Tyn K H x n) : Tyn K H' x n := by
  rcases h with h | h | ⟨a, xs, h1, h2, h3⟩ | ⟨a, xs, h1, h2, h3⟩ | h
  · exact .inl h
  · exact .inr (.inl h)
  · exact .inr (.inr (.inl ⟨a, xs, h1, ex_t e h2, h3⟩))
  · exact .inr (.inr (.inr (.inl ⟨a, xs, h1, ex_l e h2, h3⟩)))
  · exact .inr (.inr (.inr (.inr h)))
theorem Tyn.ty (h : Tyn K H x n) : TyX K H x (.type n) := by
  rcases h with ⟨i, rfl, rfl⟩ | ⟨rfl, rfl⟩ | ⟨a, xs, rfl, h2, rfl⟩ | ⟨a, xs, rfl, h2, rfl⟩ | ⟨st, rfl, rfl⟩
  · exact .base (.int i)
  · exact .base .non
  · rcases h2 with (h | ⟨o, h⟩) | ⟨o, its, k, h1, h2, _⟩
    · exact .base (.tup h)
    · exact .fTuple h
    · exact .kTuple h1 h2
  · rcases h2 with (h | ⟨o, h⟩) | ⟨o, its, k, h1, h2, _⟩
    · exact .base (.lst h)
    · exact .base (.frz h)
    · exact .kList h1 h2
  · exact .base (.str st)
theorem ev_isi (h : Ev ta σ H x) (ty : Tyn K H x n) (e : kitB n m = some r) : Ev (tCB (rIsi K) (tCons ta (tCons (tC (.ty m)) tNil))) σ H (.bl r) := fun H1 e1 Q q =>
  h H1 e1 _ fun H2 e2 => ⟨x, .ty m, .type n, .type m, r, rfl, .ty m, (ty.mono (e1.trans e2)).ty, kit_ty e, q H2 e2⟩
theorem ev_isiT {r1 r2 : Bool} (h : Ev ta σ H x) (ty : Tyn K H x n) (e : kitB n "tuple" = some r1) (e' : kitB n "list" = some r2) : Ev (tCB (rIsiT K) (tCons ta (tCons (tTup (tCons (tC (.ty "tuple")) (tCons (tC (.ty "list")) tNil))) tNil))) σ H (.bl (r1 || r2)) := fun H1 e1 Q q =>
  h H1 e1 _ fun H2 e2 => ⟨by show 2 ≤ sizeLine; decide, fun p hp => ⟨x, p, [.ty "tuple", .ty "list"], .type n, [.type "tuple", .type "list"], r1 || r2, rfl, upd_same, .cons (.ty _) (.cons (.ty _) .nil), (ty.mono ((e1.trans e2).trans (Ex.new hp))).ty, by
    refine kitAny_cons (kit_ty e) (fun h1 => ?_) (fun h1 => by rw [h1]; rfl)
    refine kitAny_cons (kit_ty e') (fun h2 => ?_) (fun h2 => by rw [h1, h2]; rfl)
    rw [h1, h2]; exact kitAny_nil, q _ (e2.trans (Ex.new hp))⟩⟩
end
def AlS (x y : V) : Prop := (∃ i, x = .int i ∧ y = .int i) ∨ (x = .non ∧ y = .non) ∨ ∃ st : Str, x = .str st ∧ y = .str st
/-- x and y stand for equal data, at most n deep -/
def Alk (K : PySem.W.Frag) (H : Hp) : Nat → V → V → Prop
  | 0, x, y => AlS x y
  | n + 1, x, y => AlS x y ∨ ∃ a b xs ys, x = .ref a ∧ y = .ref b ∧ (SqT K H a xs ∧ SqT K H b ys ∨ SqL K H a xs ∧ SqL K H b ys) ∧ xs.length = ys.length ∧ xs.length ≤ 1000 ∧ ∀ (i : Nat) u v, xs[i]? = some u → ys[i]? = some v → Alk K H n u v
theorem Alk.mono {K : PySem.W.Frag} {H H' : Hp} (e : Ex H H') : ∀ n x y, Alk K H n x y → Alk K H' n x y
  | 0, _, _, h => h
  | n + 1, x, y, h => by
    rcases h with h | ⟨a, b, xs, ys, h1, h2, h3, h4, h5, h6⟩
    · exact .inl h
    · refine .inr ⟨a, b, xs, ys, h1, h2, ?_, h4, h5, fun i u v q1 q2 => Alk.mono e n u v (h6 i u v q1 q2)⟩
      rcases h3 with h3 | h3
      · exact .inl ⟨ex_t e h3.1, ex_t e h3.2⟩
      · exact .inr ⟨ex_l e h3.1, ex_l e h3.2⟩
def sp_alike (K : PySem.W.Frag) (n : Nat) : Sp := fun vs H Q _ => ∃ x y, vs = [x, y] ∧ Alk K H n x y ∧ RetV (.bl true) H Q
theorem spv_alike {K : PySem.W.Frag} {n : Nat} {H : Hp} {x y : V} (h : Alk K H n x y) : SpV (sp_alike K n) [x, y] H (.bl true) := fun _ e _ q _ => ⟨x, y, rfl, h.mono e, q⟩
variable {P : Program} {w : World} {K : PySem.W.Frag} {mg : Str → Option Value} {base : Heap} {Z : Ad}
theorem ok__law_alike (T : Txt K mg Z) (n : Nat) : FnOk P w K mg base CX0 (n + 1) Z.f__law_alike Z.d__law_alike p__law_alike (sp_alike K n) := by
  induction n with
  | zero =>
    refine T.F__law_alike.ok sc__law_alike (fun vs H Q E h => ?_) (fun cdv Ar outer s H vs Q E hr h => ?_)
    · obtain ⟨x, y, rfl, _⟩ := h
      rfl
    · obtain ⟨x, y, rfl, hA, k⟩ := h
      have hA : AlS x y := hA
      refine ⟨_, (pss_cons (ps_if (pt_val (pe_callB (r := rIsi K) (call_isi) (by rfl) T.b_isinstance boot_isinstance (pa_cons (pv 1) (pa_cons (pe_bltn (v := .ty "dict") (by rfl) T.b_dict boot_dict rfl) pa_nil)))) (pss_one ps_no) pss_nil)
      (pss_cons (ps_if (pt_val (pe_callB (r := rIsiT K) (call_isiT) (by rfl) T.b_isinstance boot_isinstance (pa_cons (pv 1) (pa_cons (pe_tup (pa_cons (pe_bltn (v := .ty "tuple") (by rfl) T.b_tuple boot_tuple rfl) (pa_cons (pe_bltn (v := .ty "list") (by rfl) T.b_list boot_list rfl) pa_nil))) pa_nil)))) (pss_cons ps_no
      (pss_cons ps_no
      (pss_one ps_no))) pss_nil)
      (pss_cons (ps_if (PW.pt (pw_or (pt_cmp (pc_isN (pv 1))) (pw_or1 (pt_val (pe_callB (r := rIsi K) (call_isi) (by rfl) T.b_isinstance boot_isinstance (pa_cons (pv 1) (pa_cons (pe_bltn (v := .ty "str") (by rfl) T.b_str boot_str rfl) pa_nil))))))) (pss_one (ps_ret (pe_and (pe_cmpR op_eq (pv 0) (pv 1) (nomark _)) (pe_one (pe_cmpR op_eq (pe_callB (r := rIsi K) (call_isi) (by rfl) T.b_isinstance boot_isinstance (pa_cons (pv 0) (pa_cons (pe_bltn (v := .ty "str") (by rfl) T.b_str boot_str rfl) pa_nil))) (pe_callB (r := rIsi K) (call_isi) (by rfl) T.b_isinstance boot_isinstance (pa_cons (pv 1) (pa_cons (pe_bltn (v := .ty "str") (by rfl) T.b_str boot_str rfl) pa_nil))) (nomark _)))))) pss_nil)
      (pss_one (ps_ret (pe_and (pe_callB (r := rIsi K) (call_isi) (by rfl) T.b_isinstance boot_isinstance (pa_cons (pv 0) (pa_cons (pe_bltn (v := .ty "int") (by rfl) T.b_int boot_int rfl) pa_nil))) (pe_and (pe_cmpR op_eq (pe_callB (r := rIsi K) (call_isi) (by rfl) T.b_isinstance boot_isinstance (pa_cons (pv 0) (pa_cons (pe_bltn (v := .ty "bool") (by rfl) T.b_bool boot_bool rfl) pa_nil))) (pe_callB (r := rIsi K) (call_isi) (by rfl) T.b_isinstance boot_isinstance (pa_cons (pv 1) (pa_cons (pe_bltn (v := .ty "bool") (by rfl) T.b_bool boot_bool rfl) pa_nil))) (nomark _)) (pe_one (pe_cmpR op_eq (pv 0) (pv 1) (nomark _)))))))))), ?_⟩
      rcases hA with ⟨i, rfl, rfl⟩ | ⟨rfl, rfl⟩ | ⟨st, rfl, rfl⟩
      · have ty : ∀ {G : Hp}, Tyn K G (.int i) "int" := .inl ⟨i, rfl, rfl⟩
        refine q_when (b := false) (et_B (ev_isi (n := "int") (ev_var rfl) ty (by decide +kernel))) (fun hb => nomatch hb) fun _ H1 e1 => ?_
        refine q_when (b := false) (et_B (ev_isiT (n := "int") (r1 := false) (r2 := false) (ev_var rfl) ty (by decide +kernel) (by decide +kernel))) (fun hb => nomatch hb) fun _ H2 e2 => ?_
        refine q_when (b := false) (et_or (a := false) (b := false) (et_B (ev_is (ev_isN (ev_var rfl)) rfl)) fun _ => et_B (ev_isi (n := "int") (ev_var rfl) ty (by decide +kernel))) (fun hb => nomatch hb) fun _ H3 e3 => ?_
        refine s_ret (v := .bl true) (ev_andV (a := true) (b := true) (ev_isi (n := "int") (ev_var rfl) ty (by decide +kernel)) fun _ => ev_andV (a := true) (b := true) (ev_is (ev_op (ev_isi (n := "int") (m := "bool") (r := false) (ev_var rfl) ty (by decide +kernel)) (ev_isi (n := "int") (m := "bool") (r := false) (ev_var rfl) ty (by decide +kernel)) (rv_eq rfl)) rfl) fun _ => ev_is (ev_op (ev_var rfl) (ev_var rfl) (rv_eq rfl)) (by simp)) fun H4 e4 => k H4 (((e1.trans e2).trans e3).trans e4)
      · have ty : ∀ {G : Hp}, Tyn K G .non "NoneType" := .inr (.inl ⟨rfl, rfl⟩)
        refine q_when (b := false) (et_B (ev_isi (n := "NoneType") (ev_var rfl) ty (by decide +kernel))) (fun hb => nomatch hb) fun _ H1 e1 => ?_
        refine q_when (b := false) (et_B (ev_isiT (n := "NoneType") (r1 := false) (r2 := false) (ev_var rfl) ty (by decide +kernel) (by decide +kernel))) (fun hb => nomatch hb) fun _ H2 e2 => ?_
        refine q_when (b := true) (et_or (a := true) (b := true) (et_B (ev_is (ev_isN (ev_var rfl)) rfl)) fun z => nomatch z) (fun _ H3 e3 => ?_) (fun hb => nomatch hb)
        refine s_ret (v := .bl true) (ev_andV (a := true) (b := true) (ev_is (ev_op (ev_var rfl) (ev_var rfl) (rv_eq rfl)) rfl) fun _ => ev_is (ev_op (ev_isi (n := "NoneType") (m := "str") (r := false) (ev_var rfl) ty (by decide +kernel)) (ev_isi (n := "NoneType") (m := "str") (r := false) (ev_var rfl) ty (by decide +kernel)) (rv_eq rfl)) rfl) fun H4 e4 => k H4 (((e1.trans e2).trans e3).trans e4)
      · have ty : ∀ {G : Hp}, Tyn K G (.str st) "str" := .inr (.inr (.inr (.inr ⟨st, rfl, rfl⟩)))
        refine q_when (b := false) (et_B (ev_isi (n := "str") (ev_var rfl) ty (by decide +kernel))) (fun hb => nomatch hb) fun _ H1 e1 => ?_
        refine q_when (b := false) (et_B (ev_isiT (n := "str") (r1 := false) (r2 := false) (ev_var rfl) ty (by decide +kernel) (by decide +kernel))) (fun hb => nomatch hb) fun _ H2 e2 => ?_
        refine q_when (b := true) (et_or (a := false) (b := true) (et_B (ev_is (ev_isN (ev_var rfl)) rfl)) fun _ => et_B (ev_isi (n := "str") (ev_var rfl) ty (by decide +kernel))) (fun _ H3 e3 => ?_) (fun hb => nomatch hb)
        refine s_ret (v := .bl true) (ev_andV (a := true) (b := true) (ev_is (ev_op (ev_var rfl) (ev_var rfl) (rv_eq rfl)) (by simp)) fun _ => ev_is (ev_op (ev_isi (n := "str") (m := "str") (r := true) (ev_var rfl) ty (by decide +kernel)) (ev_isi (n := "str") (m := "str") (r := true) (ev_var rfl) ty (by decide +kernel)) (rv_eq rfl)) rfl) fun H4 e4 => k H4 (((e1.trans e2).trans e3).trans e4)
  | succ n ih =>
    refine T.F__law_alike.ok sc__law_alike (fun vs H Q E h => ?_) (fun cdv Ar outer s H vs Q E hr h => ?_)
    · obtain ⟨x, y, rfl, _⟩ := h
      rfl
    · obtain ⟨x, y, rfl, hA, k⟩ := h
      rcases hA with hA | ⟨a, b, xs, ys, rfl, rfl, hS, hl, hz, hA⟩
      · refine ⟨_, (pss_cons (ps_if (pt_val (pe_callB (r := rIsi K) (call_isi) (by rfl) T.b_isinstance boot_isinstance (pa_cons (pv 1) (pa_cons (pe_bltn (v := .ty "dict") (by rfl) T.b_dict boot_dict rfl) pa_nil)))) (pss_one ps_no) pss_nil)
      (pss_cons (ps_if (pt_val (pe_callB (r := rIsiT K) (call_isiT) (by rfl) T.b_isinstance boot_isinstance (pa_cons (pv 1) (pa_cons (pe_tup (pa_cons (pe_bltn (v := .ty "tuple") (by rfl) T.b_tuple boot_tuple rfl) (pa_cons (pe_bltn (v := .ty "list") (by rfl) T.b_list boot_list rfl) pa_nil))) pa_nil)))) (pss_cons ps_no
      (pss_cons ps_no
      (pss_one ps_no))) pss_nil)
      (pss_cons (ps_if (PW.pt (pw_or (pt_cmp (pc_isN (pv 1))) (pw_or1 (pt_val (pe_callB (r := rIsi K) (call_isi) (by rfl) T.b_isinstance boot_isinstance (pa_cons (pv 1) (pa_cons (pe_bltn (v := .ty "str") (by rfl) T.b_str boot_str rfl) pa_nil))))))) (pss_one (ps_ret (pe_and (pe_cmpR op_eq (pv 0) (pv 1) (nomark _)) (pe_one (pe_cmpR op_eq (pe_callB (r := rIsi K) (call_isi) (by rfl) T.b_isinstance boot_isinstance (pa_cons (pv 0) (pa_cons (pe_bltn (v := .ty "str") (by rfl) T.b_str boot_str rfl) pa_nil))) (pe_callB (r := rIsi K) (call_isi) (by rfl) T.b_isinstance boot_isinstance (pa_cons (pv 1) (pa_cons (pe_bltn (v := .ty "str") (by rfl) T.b_str boot_str rfl) pa_nil))) (nomark _)))))) pss_nil)
      (pss_one (ps_ret (pe_and (pe_callB (r := rIsi K) (call_isi) (by rfl) T.b_isinstance boot_isinstance (pa_cons (pv 0) (pa_cons (pe_bltn (v := .ty "int") (by rfl) T.b_int boot_int rfl) pa_nil))) (pe_and (pe_cmpR op_eq (pe_callB (r := rIsi K) (call_isi) (by rfl) T.b_isinstance boot_isinstance (pa_cons (pv 0) (pa_cons (pe_bltn (v := .ty "bool") (by rfl) T.b_bool boot_bool rfl) pa_nil))) (pe_callB (r := rIsi K) (call_isi) (by rfl) T.b_isinstance boot_isinstance (pa_cons (pv 1) (pa_cons (pe_bltn (v := .ty "bool") (by rfl) T.b_bool boot_bool rfl) pa_nil))) (nomark _)) (pe_one (pe_cmpR op_eq (pv 0) (pv 1) (nomark _)))))))))), ?_⟩
        rcases hA with ⟨i, rfl, rfl⟩ | ⟨rfl, rfl⟩ | ⟨st, rfl, rfl⟩
        · have ty : ∀ {G : Hp}, Tyn K G (.int i) "int" := .inl ⟨i, rfl, rfl⟩
          refine q_when (b := false) (et_B (ev_isi (n := "int") (ev_var rfl) ty (by decide +kernel))) (fun hb => nomatch hb) fun _ H1 e1 => ?_
          refine q_when (b := false) (et_B (ev_isiT (n := "int") (r1 := false) (r2 := false) (ev_var rfl) ty (by decide +kernel) (by decide +kernel))) (fun hb => nomatch hb) fun _ H2 e2 => ?_
          refine q_when (b := false) (et_or (a := false) (b := false) (et_B (ev_is (ev_isN (ev_var rfl)) rfl)) fun _ => et_B (ev_isi (n := "int") (ev_var rfl) ty (by decide +kernel))) (fun hb => nomatch hb) fun _ H3 e3 => ?_
          refine s_ret (v := .bl true) (ev_andV (a := true) (b := true) (ev_isi (n := "int") (ev_var rfl) ty (by decide +kernel)) fun _ => ev_andV (a := true) (b := true) (ev_is (ev_op (ev_isi (n := "int") (m := "bool") (r := false) (ev_var rfl) ty (by decide +kernel)) (ev_isi (n := "int") (m := "bool") (r := false) (ev_var rfl) ty (by decide +kernel)) (rv_eq rfl)) rfl) fun _ => ev_is (ev_op (ev_var rfl) (ev_var rfl) (rv_eq rfl)) (by simp)) fun H4 e4 => k H4 (((e1.trans e2).trans e3).trans e4)
        · have ty : ∀ {G : Hp}, Tyn K G .non "NoneType" := .inr (.inl ⟨rfl, rfl⟩)
          refine q_when (b := false) (et_B (ev_isi (n := "NoneType") (ev_var rfl) ty (by decide +kernel))) (fun hb => nomatch hb) fun _ H1 e1 => ?_
          refine q_when (b := false) (et_B (ev_isiT (n := "NoneType") (r1 := false) (r2 := false) (ev_var rfl) ty (by decide +kernel) (by decide +kernel))) (fun hb => nomatch hb) fun _ H2 e2 => ?_
          refine q_when (b := true) (et_or (a := true) (b := true) (et_B (ev_is (ev_isN (ev_var rfl)) rfl)) fun z => nomatch z) (fun _ H3 e3 => ?_) (fun hb => nomatch hb)
          refine s_ret (v := .bl true) (ev_andV (a := true) (b := true) (ev_is (ev_op (ev_var rfl) (ev_var rfl) (rv_eq rfl)) rfl) fun _ => ev_is (ev_op (ev_isi (n := "NoneType") (m := "str") (r := false) (ev_var rfl) ty (by decide +kernel)) (ev_isi (n := "NoneType") (m := "str") (r := false) (ev_var rfl) ty (by decide +kernel)) (rv_eq rfl)) rfl) fun H4 e4 => k H4 (((e1.trans e2).trans e3).trans e4)
        · have ty : ∀ {G : Hp}, Tyn K G (.str st) "str" := .inr (.inr (.inr (.inr ⟨st, rfl, rfl⟩)))
          refine q_when (b := false) (et_B (ev_isi (n := "str") (ev_var rfl) ty (by decide +kernel))) (fun hb => nomatch hb) fun _ H1 e1 => ?_
          refine q_when (b := false) (et_B (ev_isiT (n := "str") (r1 := false) (r2 := false) (ev_var rfl) ty (by decide +kernel) (by decide +kernel))) (fun hb => nomatch hb) fun _ H2 e2 => ?_
          refine q_when (b := true) (et_or (a := false) (b := true) (et_B (ev_is (ev_isN (ev_var rfl)) rfl)) fun _ => et_B (ev_isi (n := "str") (ev_var rfl) ty (by decide +kernel))) (fun _ H3 e3 => ?_) (fun hb => nomatch hb)
          refine s_ret (v := .bl true) (ev_andV (a := true) (b := true) (ev_is (ev_op (ev_var rfl) (ev_var rfl) (rv_eq rfl)) (by simp)) fun _ => ev_is (ev_op (ev_isi (n := "str") (m := "str") (r := true) (ev_var rfl) ty (by decide +kernel)) (ev_isi (n := "str") (m := "str") (r := true) (ev_var rfl) ty (by decide +kernel)) (rv_eq rfl)) rfl) fun H4 e4 => k H4 (((e1.trans e2).trans e3).trans e4)
      · have hln : ((ys.length : Nat) : Int) = (xs.length : Int) := by omega
        rcases hS with ⟨ha, hb⟩ | ⟨ha, hb⟩
        · have tx : Tyn K H (.ref a) "tuple" := .inr (.inr (.inl ⟨a, xs, rfl, ha, rfl⟩))
          have ty : Tyn K H (.ref b) "tuple" := .inr (.inr (.inl ⟨b, ys, rfl, hb, rfl⟩))
          refine ⟨_, (pss_cons (ps_if (pt_val (pe_callB (r := rIsi K) (call_isi) (by rfl) T.b_isinstance boot_isinstance (pa_cons (pv 1) (pa_cons (pe_bltn (v := .ty "dict") (by rfl) T.b_dict boot_dict rfl) pa_nil)))) (pss_one ps_no) pss_nil)
      (pss_cons (ps_if (pt_val (pe_callB (r := rIsiT K) (call_isiT) (by rfl) T.b_isinstance boot_isinstance (pa_cons (pv 1) (pa_cons (pe_tup (pa_cons (pe_bltn (v := .ty "tuple") (by rfl) T.b_tuple boot_tuple rfl) (pa_cons (pe_bltn (v := .ty "list") (by rfl) T.b_list boot_list rfl) pa_nil))) pa_nil)))) (pss_cons (ps_if (PW.pt (pw_or (pt_not (pt_val (pe_callB (r := rIsiT K) (call_isiT) (by rfl) T.b_isinstance boot_isinstance (pa_cons (pv 0) (pa_cons (pe_tup (pa_cons (pe_bltn (v := .ty "tuple") (by rfl) T.b_tuple boot_tuple rfl) (pa_cons (pe_bltn (v := .ty "list") (by rfl) T.b_list boot_list rfl) pa_nil))) pa_nil))))) (pw_or1 (pt_cmpR op_ne (pe_callB (r := rIsi K) (call_isi) (by rfl) T.b_isinstance boot_isinstance (pa_cons (pv 0) (pa_cons (pe_bltn (v := .ty "list") (by rfl) T.b_list boot_list rfl) pa_nil))) (pe_callB (r := rIsi K) (call_isi) (by rfl) T.b_isinstance boot_isinstance (pa_cons (pv 1) (pa_cons (pe_bltn (v := .ty "list") (by rfl) T.b_list boot_list rfl) pa_nil))) (nomark _))))) (pss_one (ps_ret pe_bl)) pss_nil)
      (pss_cons (ps_if (pt_cmpR op_ne (pe_callB (r := rLenS K) (call_len_seq) (by rfl) T.b_len boot_len (pa_cons (pv 0) pa_nil)) (pe_callB (r := rLenS K) (call_len_seq) (by rfl) T.b_len boot_len (pa_cons (pv 1) pa_nil)) (nomark _)) (pss_one (ps_ret pe_bl)) pss_nil)
      (pss_one (ps_ret (pe_cmpR (op_eqD hr.units) (pe_lc (own := [("_law_k", 2)]) rfl sc__law_alike.nd (pi_range1 (by rfl) T.b_range (pa_cons (pe_callB (r := rLenS K) (call_len_seq) (by rfl) T.b_len boot_len (pa_cons (pv 1) pa_nil)) pa_nil)) (blkOk_by (own := [("_law_k", 2)]) (N := n__law_alike) (sc := defScope s__law_alike) (scope := { kind := PySem.ScopeKind.function, names := [ (PySem.Str.ofString ".0", PySem.NameKind.local), (PySem.Str.ofString "_law_k", PySem.NameKind.local), (PySem.Str.ofString "_law_alike", PySem.NameKind.globalImplicit), (PySem.Str.ofString "_law_due", PySem.NameKind.free), (PySem.Str.ofString "_law_found", PySem.NameKind.free)], isGenerator := false, isCoroutine := false, more := [] : PySem.Scope }) (by decide +kernel)) (fun _ _ _ _ _ => (pg_name (i := 2) sc__law_alike.nd rfl (Or.inl rfl))) (fun _ _ _ _ _ => (pts_one (pt_not (pt_val (pe_call ih hr (by rfl) T.g__law_alike T.F__law_alike.kp T.b__law_alike .nil pass0 (pa_cons (pe_ix (r := rIxT K) ix_tup (pv 0) (pv 2) (fun _ _ => rfl)) (pa_cons (pe_ix (r := rIxT K) ix_tup (pv 1) (pv 2) (fun _ _ => rfl)) pa_nil))))))) (fun _ _ _ _ _ => (pv 2))) (pe_lst pa_nil) (nomark _)))))) pss_nil)
      (pss_cons (ps_if (PW.pt (pw_or (pt_cmp (pc_isN (pv 1))) (pw_or1 (pt_val (pe_callB (r := rIsi K) (call_isi) (by rfl) T.b_isinstance boot_isinstance (pa_cons (pv 1) (pa_cons (pe_bltn (v := .ty "str") (by rfl) T.b_str boot_str rfl) pa_nil))))))) (pss_one (ps_ret (pe_and (pe_cmpR op_eq (pv 0) (pv 1) (nomark _)) (pe_one (pe_cmpR op_eq (pe_callB (r := rIsi K) (call_isi) (by rfl) T.b_isinstance boot_isinstance (pa_cons (pv 0) (pa_cons (pe_bltn (v := .ty "str") (by rfl) T.b_str boot_str rfl) pa_nil))) (pe_callB (r := rIsi K) (call_isi) (by rfl) T.b_isinstance boot_isinstance (pa_cons (pv 1) (pa_cons (pe_bltn (v := .ty "str") (by rfl) T.b_str boot_str rfl) pa_nil))) (nomark _)))))) pss_nil)
      (pss_one (ps_ret (pe_and (pe_callB (r := rIsi K) (call_isi) (by rfl) T.b_isinstance boot_isinstance (pa_cons (pv 0) (pa_cons (pe_bltn (v := .ty "int") (by rfl) T.b_int boot_int rfl) pa_nil))) (pe_and (pe_cmpR op_eq (pe_callB (r := rIsi K) (call_isi) (by rfl) T.b_isinstance boot_isinstance (pa_cons (pv 0) (pa_cons (pe_bltn (v := .ty "bool") (by rfl) T.b_bool boot_bool rfl) pa_nil))) (pe_callB (r := rIsi K) (call_isi) (by rfl) T.b_isinstance boot_isinstance (pa_cons (pv 1) (pa_cons (pe_bltn (v := .ty "bool") (by rfl) T.b_bool boot_bool rfl) pa_nil))) (nomark _)) (pe_one (pe_cmpR op_eq (pv 0) (pv 1) (nomark _)))))))))), ?_⟩
          refine q_when (b := false) (et_B (ev_isi (n := "tuple") (ev_var rfl) ty (by decide +kernel))) (fun hb => nomatch hb) fun _ H1 e1 => ?_
          refine q_when (b := true) (et_B (ev_isiT (n := "tuple") (r1 := true) (r2 := false) (ev_var rfl) (ty.mono e1) (by decide +kernel) (by decide +kernel))) (fun _ H2 e2 => ?_) (fun hb => nomatch hb)
          have e12 := e1.trans e2
          refine q_when (b := false) (et_or (a := false) (b := false) (et_not (a := true) (et_B (ev_isiT (n := "tuple") (r1 := true) (r2 := false) (ev_var rfl) (tx.mono e12) (by decide +kernel) (by decide +kernel)))) fun _ => et_test (ev_is (ev_op (ev_isi (n := "tuple") (m := "list") (r := false) (ev_var rfl) (tx.mono e12) (by decide +kernel)) (ev_isi (n := "tuple") (m := "list") (r := false) (ev_var rfl) (ty.mono e12) (by decide +kernel)) (rv_ne rfl)) rfl)) (fun hb => nomatch hb) fun _ H3 e3 => ?_
          have e13 := e12.trans e3
          refine q_when (b := false) (et_test (ev_is (ev_op (ev_lenT (ev_var rfl) (ex_t e13 ha)) (Ev.int_eq (ev_lenT (ev_var rfl) (ex_t e13 hb)) hln) (rv_ne rfl)) (by simp))) (fun hb => nomatch hb) fun _ H4 e4 => ?_
          have e14 := e13.trans e4
          refine s_ret (v := .bl true) (ev_eqNil (xs := given (ys.length : Int).toNat (fun _ => false) (fun i => .int (i : Int))) (el_lcR1 (n := (ys.length : Int)) (fun _ => false) _ (ea_cons (ev_lenT (ev_var rfl) (ex_t e14 hb)) ea_nil) ⟨by omega, by omega⟩ (fun _ => rfl) (fun i G e5 hi => ?_) (fun i G e5 hi hf => nomatch hf)) (el_lst ea_nil (by show 0 ≤ 100000; decide)) (given_none fun _ _ => rfl)) fun H5 e5 => k H5 (e14.trans e5)
          have hx : (i : Nat) < xs.length := by omega
          have hy : (i : Nat) < ys.length := by omega
          refine et_not (a := true) (et_B (ev_call (vs := [xs[i], ys[i]]) (ea_cons (ev_ixT (ev_var rfl) (ex_t (e14.trans e5) ha) (ev_var rfl) (atI_nat (by simp))) (ea_cons (ev_ixT (ev_var rfl) (ex_t (e14.trans e5) hb) (ev_var rfl) (atI_nat (by simp))) ea_nil)) (spv_alike ?_)))
          exact (hA i _ _ (by simp) (by simp)).mono (e14.trans e5)
        · have tx : Tyn K H (.ref a) "list" := .inr (.inr (.inr (.inl ⟨a, xs, rfl, ha, rfl⟩)))
          have ty : Tyn K H (.ref b) "list" := .inr (.inr (.inr (.inl ⟨b, ys, rfl, hb, rfl⟩)))
          refine ⟨_, (pss_cons (ps_if (pt_val (pe_callB (r := rIsi K) (call_isi) (by rfl) T.b_isinstance boot_isinstance (pa_cons (pv 1) (pa_cons (pe_bltn (v := .ty "dict") (by rfl) T.b_dict boot_dict rfl) pa_nil)))) (pss_one ps_no) pss_nil)
      (pss_cons (ps_if (pt_val (pe_callB (r := rIsiT K) (call_isiT) (by rfl) T.b_isinstance boot_isinstance (pa_cons (pv 1) (pa_cons (pe_tup (pa_cons (pe_bltn (v := .ty "tuple") (by rfl) T.b_tuple boot_tuple rfl) (pa_cons (pe_bltn (v := .ty "list") (by rfl) T.b_list boot_list rfl) pa_nil))) pa_nil)))) (pss_cons (ps_if (PW.pt (pw_or (pt_not (pt_val (pe_callB (r := rIsiT K) (call_isiT) (by rfl) T.b_isinstance boot_isinstance (pa_cons (pv 0) (pa_cons (pe_tup (pa_cons (pe_bltn (v := .ty "tuple") (by rfl) T.b_tuple boot_tuple rfl) (pa_cons (pe_bltn (v := .ty "list") (by rfl) T.b_list boot_list rfl) pa_nil))) pa_nil))))) (pw_or1 (pt_cmpR op_ne (pe_callB (r := rIsi K) (call_isi) (by rfl) T.b_isinstance boot_isinstance (pa_cons (pv 0) (pa_cons (pe_bltn (v := .ty "list") (by rfl) T.b_list boot_list rfl) pa_nil))) (pe_callB (r := rIsi K) (call_isi) (by rfl) T.b_isinstance boot_isinstance (pa_cons (pv 1) (pa_cons (pe_bltn (v := .ty "list") (by rfl) T.b_list boot_list rfl) pa_nil))) (nomark _))))) (pss_one (ps_ret pe_bl)) pss_nil)
      (pss_cons (ps_if (pt_cmpR op_ne (pe_callB (r := rLenS K) (call_len_seq) (by rfl) T.b_len boot_len (pa_cons (pv 0) pa_nil)) (pe_callB (r := rLenS K) (call_len_seq) (by rfl) T.b_len boot_len (pa_cons (pv 1) pa_nil)) (nomark _)) (pss_one (ps_ret pe_bl)) pss_nil)
      (pss_one (ps_ret (pe_cmpR (op_eqD hr.units) (pe_lc (own := [("_law_k", 2)]) rfl sc__law_alike.nd (pi_range1 (by rfl) T.b_range (pa_cons (pe_callB (r := rLenS K) (call_len_seq) (by rfl) T.b_len boot_len (pa_cons (pv 1) pa_nil)) pa_nil)) (blkOk_by (own := [("_law_k", 2)]) (N := n__law_alike) (sc := defScope s__law_alike) (scope := { kind := PySem.ScopeKind.function, names := [ (PySem.Str.ofString ".0", PySem.NameKind.local), (PySem.Str.ofString "_law_k", PySem.NameKind.local), (PySem.Str.ofString "_law_alike", PySem.NameKind.globalImplicit), (PySem.Str.ofString "_law_due", PySem.NameKind.free), (PySem.Str.ofString "_law_found", PySem.NameKind.free)], isGenerator := false, isCoroutine := false, more := [] : PySem.Scope }) (by decide +kernel)) (fun _ _ _ _ _ => (pg_name (i := 2) sc__law_alike.nd rfl (Or.inl rfl))) (fun _ _ _ _ _ => (pts_one (pt_not (pt_val (pe_call ih hr (by rfl) T.g__law_alike T.F__law_alike.kp T.b__law_alike .nil pass0 (pa_cons (pe_ix (r := rIxL K) ix_list (pv 0) (pv 2) (fun _ _ => rfl)) (pa_cons (pe_ix (r := rIxL K) ix_list (pv 1) (pv 2) (fun _ _ => rfl)) pa_nil))))))) (fun _ _ _ _ _ => (pv 2))) (pe_lst pa_nil) (nomark _)))))) pss_nil)
      (pss_cons (ps_if (PW.pt (pw_or (pt_cmp (pc_isN (pv 1))) (pw_or1 (pt_val (pe_callB (r := rIsi K) (call_isi) (by rfl) T.b_isinstance boot_isinstance (pa_cons (pv 1) (pa_cons (pe_bltn (v := .ty "str") (by rfl) T.b_str boot_str rfl) pa_nil))))))) (pss_one (ps_ret (pe_and (pe_cmpR op_eq (pv 0) (pv 1) (nomark _)) (pe_one (pe_cmpR op_eq (pe_callB (r := rIsi K) (call_isi) (by rfl) T.b_isinstance boot_isinstance (pa_cons (pv 0) (pa_cons (pe_bltn (v := .ty "str") (by rfl) T.b_str boot_str rfl) pa_nil))) (pe_callB (r := rIsi K) (call_isi) (by rfl) T.b_isinstance boot_isinstance (pa_cons (pv 1) (pa_cons (pe_bltn (v := .ty "str") (by rfl) T.b_str boot_str rfl) pa_nil))) (nomark _)))))) pss_nil)
      (pss_one (ps_ret (pe_and (pe_callB (r := rIsi K) (call_isi) (by rfl) T.b_isinstance boot_isinstance (pa_cons (pv 0) (pa_cons (pe_bltn (v := .ty "int") (by rfl) T.b_int boot_int rfl) pa_nil))) (pe_and (pe_cmpR op_eq (pe_callB (r := rIsi K) (call_isi) (by rfl) T.b_isinstance boot_isinstance (pa_cons (pv 0) (pa_cons (pe_bltn (v := .ty "bool") (by rfl) T.b_bool boot_bool rfl) pa_nil))) (pe_callB (r := rIsi K) (call_isi) (by rfl) T.b_isinstance boot_isinstance (pa_cons (pv 1) (pa_cons (pe_bltn (v := .ty "bool") (by rfl) T.b_bool boot_bool rfl) pa_nil))) (nomark _)) (pe_one (pe_cmpR op_eq (pv 0) (pv 1) (nomark _)))))))))), ?_⟩
          refine q_when (b := false) (et_B (ev_isi (n := "list") (ev_var rfl) ty (by decide +kernel))) (fun hb => nomatch hb) fun _ H1 e1 => ?_
          refine q_when (b := true) (et_B (ev_isiT (n := "list") (r1 := false) (r2 := true) (ev_var rfl) (ty.mono e1) (by decide +kernel) (by decide +kernel))) (fun _ H2 e2 => ?_) (fun hb => nomatch hb)
          have e12 := e1.trans e2
          refine q_when (b := false) (et_or (a := false) (b := false) (et_not (a := true) (et_B (ev_isiT (n := "list") (r1 := false) (r2 := true) (ev_var rfl) (tx.mono e12) (by decide +kernel) (by decide +kernel)))) fun _ => et_test (ev_is (ev_op (ev_isi (n := "list") (m := "list") (r := true) (ev_var rfl) (tx.mono e12) (by decide +kernel)) (ev_isi (n := "list") (m := "list") (r := true) (ev_var rfl) (ty.mono e12) (by decide +kernel)) (rv_ne rfl)) rfl)) (fun hb => nomatch hb) fun _ H3 e3 => ?_
          have e13 := e12.trans e3
          refine q_when (b := false) (et_test (ev_is (ev_op (ev_len (ev_var rfl) (ex_l e13 ha)) (Ev.int_eq (ev_len (ev_var rfl) (ex_l e13 hb)) hln) (rv_ne rfl)) (by simp))) (fun hb => nomatch hb) fun _ H4 e4 => ?_
          have e14 := e13.trans e4
          refine s_ret (v := .bl true) (ev_eqNil (xs := given (ys.length : Int).toNat (fun _ => false) (fun i => .int (i : Int))) (el_lcR1 (n := (ys.length : Int)) (fun _ => false) _ (ea_cons (ev_len (ev_var rfl) (ex_l e14 hb)) ea_nil) ⟨by omega, by omega⟩ (fun _ => rfl) (fun i G e5 hi => ?_) (fun i G e5 hi hf => nomatch hf)) (el_lst ea_nil (by show 0 ≤ 100000; decide)) (given_none fun _ _ => rfl)) fun H5 e5 => k H5 (e14.trans e5)
          have hx : (i : Nat) < xs.length := by omega
          have hy : (i : Nat) < ys.length := by omega
          refine et_not (a := true) (et_B (ev_call (vs := [xs[i], ys[i]]) (ea_cons (ev_ixL (ev_var rfl) (ex_l (e14.trans e5) ha) (ev_var rfl) (atI_nat (by simp))) (ea_cons (ev_ixL (ev_var rfl) (ex_l (e14.trans e5) hb) (ev_var rfl) (atI_nat (by simp))) ea_nil)) (spv_alike ?_)))
          exact (hA i _ _ (by simp) (by simp)).mono (e14.trans e5)
end Sw
namespace Sw
open PySem PySem.Spec PyProof.Rows L2 Evl
local macro_rules | `(tactic| walk_at "ev") => `(tactic| first
  | exact ev_c
  | exact ev_var rfl
  | ((with_reducible show Ev (tCB rMax2 _) _ _ _); exact ev_maxi (by walk_at "ev") (by walk_at "ev"))
  | ((with_reducible show Ev (tCB rMn _) _ _ _); exact ev_min2 (by walk_at "ev") (by walk_at "ev"))
  | ((with_reducible show Ev (tUn _ _) _ _ _); exact ev_un (by walk_at "ev") ru_neg)
  | ((with_reducible show Ev (tFld _ _ _) _ _ _); exact ev_fldK (by walk_at "ev") (by assumption))
  | ((with_reducible show Ev (tOp (rI0 _) _ _) _ _ _); exact ev_op (by walk_at "ev") (by walk_at "ev") rv_I0)
  | ((with_reducible show Ev (tOp rEq _ _) _ _ _); exact ev_op (by walk_at "ev") (by walk_at "ev") (rv_eq rfl))
  | ((with_reducible show Ev (tOp rNe _ _) _ _ _); exact ev_op (by walk_at "ev") (by walk_at "ev") (rv_ne rfl)))

section
variable {K : PySem.W.Frag} {Z : Ad} {σ : L2.St} {H H' : Hp} {ta tb tc te tx : TE} {x y z v : V} {a b h l : Addr} {xs ys : List V} {A B C D : Int → Prop} {i j : Int} {bs ds : List Int} {life : Int} {k t : Nat}
theorem ev_neNil (ha : EvL ta σ H xs) (hb : EvL tb σ H []) (hx : xs = []) : Ev (tOp (rNeD K) ta tb) σ H (.bl false) := ev_opLL ha hb fun p q H1 hp hq _ => fun H2 e2 Q k => by
  subst hx
  exact ⟨.list [], .list [], .lst (sq_of (e2 _ _ hp)) .nil, .lst (sq_of (e2 _ _ hq)) .nil, by decide, by decide, by
    have : (!PyData.eqv (.list []) (.list [])) = false := by decide
    rw [this]; exact k H2 (Ex.refl _)⟩
theorem spv_Bstock (hB : BakAt K Z H b bs ds life k) (ht : (t : Int) ≤ 1000000000000000000) : SpV (sp_Bstock K Z) [.ref b, .int (t : Int)] H (.int (dayS bs ds (keepL bs life) t)) := fun _ e _ q _ => ⟨b, bs, ds, life, k, t, rfl, ht, hB.mono e, q⟩
theorem spv_Bday {j : Nat} (hB : BakAt K Z H b bs ds life k) (ht : (t : Int) ≤ 1000000000000000000) : SpV (sp_Bday K Z j) [.ref b, .int (t : Int)] H (.int ([solS bs ds (keepL bs life) t, misS bs ds (keepL bs life) t, thrS bs ds (keepL bs life) t].getD j 0)) := fun _ e _ q _ => ⟨b, bs, ds, life, k, t, rfl, ht, hB.mono e, q⟩
theorem spu_Btot (hB : BakAt K Z H b bs ds life k) (ht : (t : Int) ≤ 1000000000000000000) : SpU (sp_Btot K Z) [.ref b, .int (t : Int)] H ((totS bs ds (keepL bs life) t).map V.int) := fun _ e _ q _ => ⟨b, bs, ds, life, k, t, rfl, ht, hB.mono e, q⟩
theorem ew_long {E : XK} (h : Ev ta σ H (.ref b)) (hB : BakAt K Z H b bs ds life k) : EvW K (tProp Z.c_Bakery (sp_Blong K Z) [] E ta) σ H ((longI bs ds (lmOf bs ds (keepL bs life))).map V.int) := fun H1 e Q q =>
  h H1 e _ fun H2 e2 => let ⟨dx, fs, h1⟩ := hB.inst; ⟨b, dx, fs, rfl, e2 _ _ (e _ _ h1), b, bs, ds, life, k, rfl, hB.mono (e.trans e2), fun p H3 e3 h3 => q p H3 (e2.trans e3) h3⟩
theorem ev_ixW (h : EvW K ta σ H xs) (hb : Ev tb σ H (.int i)) (ha : atI xs i = some v) : Ev (tOp (rIxT K) ta tb) σ H v := fun H1 e Q q =>
  h H1 e _ fun p H2 e2 hp => hb H2 (e.trans e2) _ fun H3 e3 => rv_ixT (K := K) (ex_t e3 hp) ha H3 (Ex.refl H3) Q fun H4 e4 => q H4 ((e2.trans e3).trans e4)
theorem ev_callU {sp : Sp} {E : XK} (ha : EvU ta σ H xs) (hb : Ev tb σ H y) (hs : ∀ p H1, Ex H H1 → H1 p = some (.tup xs) → SpV sp [.ref p, y] H1 z) : Ev (tCall sp [] E (tCons ta (tCons tb tNil))) σ H z := fun H1 e Q q =>
  ha H1 e _ fun p H2 _ e2 hp => hb H2 (e.trans e2) _ fun H3 e3 => hs p H3 ((e.trans e2).trans e3) (e3 _ _ hp) H3 (Ex.refl _) Q (fun H4 e4 => q H4 ((e2.trans e3).trans e4)) E
theorem ev_callL {sp : Sp} {E : XK} (ha : EvL ta σ H xs) (hb : Ev tb σ H y) (hs : ∀ p H1, Ex H H1 → H1 p = some (.lst xs) → SpV sp [.ref p, y] H1 z) : Ev (tCall sp [] E (tCons ta (tCons tb tNil))) σ H z := fun H1 e Q q =>
  ha H1 e _ fun p H2 _ e2 hp => hb H2 (e.trans e2) _ fun H3 e3 => hs p H3 ((e.trans e2).trans e3) (e3 _ _ hp) H3 (Ex.refl _) Q (fun H4 e4 => q H4 ((e2.trans e3).trans e4)) E
/-- a bakery, its size, the settled day of another one like it -/
theorem q_bak3 {t t' : TA} {tl : TE} {E E' E'' : XK} {pb pd : Addr} {i1 i2 i3 : Nat} {D : Ends} {tz : TS} (hs : HS H h l) (ht : EvA t σ H [.ref pb, .ref pd, .int life]) (ht' : EvA t' σ H [.ref pb, .ref pd, .int life]) (htl : Ev tl σ H (.ref pb))
    (hb : SqT K (wn H (hl h l)) pb (bs.map V.int)) (hd : SqT K (wn H (hl h l)) pd (ds.map V.int)) (gd : Good bs ds) (l0 : 1 ≤ life) (l1 : life ≤ 30)
    (k : ∀ (b : Addr) (i i2' : Nat) (H' : Hp), Dr h l H H' → BakAt K Z (wn H' (hl h l)) b bs ds life i → SetAt bs ds (keepL bs life) (gainOf bs ds) (firstOf bs ds (keepL bs life)) (fullOf bs ds (keepL bs life)) i2' →
      tz D (((σ.set i1 (some (.ref b))).set i2 (some (.int (bs.length : Int)))).set i3 (some (.int (grw bs ds (keepL bs life) * (bs.length : Int) + (i2' : Int))))) H') :
    tSeq (tAsg (tTup (tCons (tMake Z.c_Bakery (sp_Binit K Z) [] E t) (tCons (tCB (rLenS K) (tCons tl tNil)) (tCons (tProp Z.c_Bakery (sp_Bset K Z) [] E' (tMake Z.c_Bakery (sp_Binit K Z) [] E'' t')) tNil)))) (gTup K 3 (gCons (gName i1) (gCons (gName i2) (gCons (gName i3) gNil))))) tz D σ H := by
  dsimp only [tSeq, tAsg, tTup, tCons, tCB, tNil, tProp, gTup, gCons, gName, gNil]
  refine er_bakery ht hb hd gd l0 l1 H (Ex.refl _) hs.kn _ fun b H3 hb0 e3 ⟨i, hB⟩ => ?_
  refine htl H3 e3 _ fun H4 e4 => ⟨pb, _, rfl, .inr (ex_t (wn_ex.trans (e3.trans e4)) hb), ?_⟩
  refine er_bakery (ht'.mono (e3.trans e4)) (ex_t (wn_mono (e3.trans e4)) hb) (ex_t (wn_mono (e3.trans e4)) hd) gd l0 l1 H4 (Ex.refl _) (hs.mono (e3.trans e4)).kn _ fun b2 H5 hb1 e5 ⟨j2, hB2⟩ => ?_
  obtain ⟨dx2, fs2, hi2⟩ := (hB2.mono wn_ex).inst
  refine ⟨b2, dx2, fs2, rfl, hi2, b2, bs, ds, life, j2, rfl, hB2.mono wn_ex, fun H6 e6 => ?_⟩
  refine ⟨by show 3 ≤ sizeLine; decide, fun r hr => ?_⟩
  refine ⟨r, _, rfl, st_of upd_same, rfl, _, _, rfl, _, _, rfl, _, _, rfl, rfl, ?_⟩
  have e36 := ((e3.trans e4).trans e5).trans e6
  have hlen : ((bs.map V.int).length : Int) = (bs.length : Int) := by rw [List.length_map]
  rw [hlen]
  exact k b i j2 _ ((Dr.of hs e36).trans (Dr.of (hs.mono e36) (Ex.new hr))) (hB.mono ((wn_mono ((e4.trans e5).trans e6)).trans (wn_mono (Ex.new hr)))) hB2.hi
/-- two lists of numbers, joined -/
theorem x_catL {A B : List Int → Prop} (ha : EvX ta σ H h l (LI A)) (hb : EvX tb σ H h l (LI B)) (hz : ∀ as bs, A as → B bs → as.length + bs.length ≤ 100000) : EvX (tOp rCat ta tb) σ H h l (LI fun ns => ∃ as bs, ns = as ++ bs ∧ A as ∧ B bs) := fun H1 d Q q =>
  ha H1 d _ fun _ H2 d2 ⟨p, as, e, hp, hA⟩ => hb H2 (d.trans d2) _ fun _ H3 d3 ⟨r, bs, e', hr, hB⟩ => by
    subst e e'
    have hp3 := wn_ex _ _ (d3.ex _ _ hp)
    refine ⟨p, r, as.map V.int, bs.map V.int, rfl, rfl, hp3, wn_ex _ _ hr, sz_of (by rw [List.length_map, List.length_map]; exact hz as bs hA hB), fun t ht => ?_⟩
    have d4 := Dr.of d3.hs (Ex.new (o := .lst (as.map V.int ++ bs.map V.int)) ht)
    exact q _ _ ((d2.trans d3).trans d4) ⟨t, as ++ bs, rfl, by rw [wn_ni (hl_new (G' := H3) d3.hs ht), upd_same, List.map_append], as, bs, rfl, hA, hB⟩
/-- a list with no draws -/
theorem x_li {ns : List Int} {A : List Int → Prop} (hv : EvL te σ (wn H (hl h l)) (ns.map V.int)) (hA : A ns) : EvX te σ H h l (LI A) := (x_evL hv).imp fun v G ⟨p, e, hp⟩ => ⟨p, ns, e, hp, hA⟩
/-- no item of the list passes the test -/
theorem ev_noneL {tl : TE} {t : TT} {jj : Nat} {vs : List Nat} {p : Addr} {ns : List Int} (hv : Ev tl σ H (.ref p)) (hx : SqL K H p (ns.map V.int)) (hz : ns.length ≤ 40000) (hw : ∀ x, wipe ((wipe σ vs).set jj (some x)) vs = wipe σ vs)
    (ht : ∀ (n : Int) H1, Ex H H1 → n ∈ ns → EvT t ((wipe σ vs).set jj (some (.int n))) H1 false) : Ev (tOp (rNeD K) (tLc (iList K tl) (gName jj) t te vs) (tLst tNil)) σ H (.bl false) :=
  ev_neNil (el_lcL (fun _ => false) (fun _ => .non) hv hx (by rw [List.length_map]; exact hz) hw (fun i x H1 e hi => by
    obtain ⟨rfl, hlt⟩ := at_map hi
    refine ht _ H1 e ?_
    have e2 : ns.getD i 0 = ns[i] := by simp [List.getD, hlt]
    rw [e2]; exact List.getElem_mem hlt) (fun i x H1 e hi hf => nomatch hf)) (el_lst ea_nil (by show 0 ≤ 100000; decide)) (given_none fun _ _ => rfl)
end
variable {P : Program} {w : World} {K : PySem.W.Frag} {mg : Str → Option Value} {base : Heap} {Z : Ad}
def sp_law (K : PySem.W.Frag) : Sp := fun vs H Q _ => ∃ (a : Addr) (ns : List Int), vs = [.ref a] ∧ SqL K H a (ns.map V.int) ∧ ns.length ≤ 63 ∧ ∀ H', Q (.bl true) H'
theorem pw18 : (10 : Int) ^ (18 : Int).toNat = 1000000000000000000 := by decide
theorem pw15 : (10 : Int) ^ (15 : Int).toNat = 1000000000000000 := by decide
theorem pw14 : (10 : Int) ^ (14 : Int).toNat = 100000000000000 := by decide
theorem pw12 : (10 : Int) ^ (12 : Int).toNat = 1000000000000 := by decide
theorem pw17' : (10 : Int) ^ (17 : Int).toNat = 100000000000000000 := by decide
theorem pw9 : (10 : Int) ^ (9 : Int).toNat = 1000000000 := by decide
theorem ev_pow {σ : L2.St} {H : Hp} {n m : Int} (hc : CPow 10 n) (e : (10 : Int) ^ n.toNat = m) : Ev (tOp (rI CPow fun i j => .int (i ^ j.toNat)) (tC (.int 10)) (tC (.int n))) σ H (.int m) := Ev.int_eq (ev_op ev_c ev_c (rv_I hc)) e
end Sw
namespace Sw
open PySem PySem.Spec PyProof.Rows L2 Evl LamX NdefX
local macro_rules | `(tactic| walk_at "ev") => `(tactic| first
  | exact ev_c
  | exact ev_var rfl
  | ((with_reducible show Ev (tCB rMax2 _) _ _ _); exact ev_maxi (by walk_at "ev") (by walk_at "ev"))
  | ((with_reducible show Ev (tCB rMn _) _ _ _); exact ev_min2 (by walk_at "ev") (by walk_at "ev"))
  | ((with_reducible show Ev (tUn _ _) _ _ _); exact ev_un (by walk_at "ev") ru_neg)
  | ((with_reducible show Ev (tFld _ _ _) _ _ _); exact ev_fldK (by walk_at "ev") (by assumption))
  | ((with_reducible show Ev (tOp (rI0 _) _ _) _ _ _); exact ev_op (by walk_at "ev") (by walk_at "ev") rv_I0)
  | ((with_reducible show Ev (tOp rEq _ _) _ _ _); exact ev_op (by walk_at "ev") (by walk_at "ev") (rv_eq rfl))
  | ((with_reducible show Ev (tOp rNe _ _) _ _ _); exact ev_op (by walk_at "ev") (by walk_at "ev") (rv_ne rfl)))

section
variable {K : PySem.W.Frag} {σ : L2.St} {H : Hp} {to ty te : TE} {p a C dd : Addr} {ys : List V} {y v : V} {n : Str} {fs : List (Str × V)}
theorem ev_cntF (ho : Ev to σ H (.ref p)) (hs : SqL K H p ys) (hy : Ev ty σ H y) (f1 : flatV y = true) (f2 : ys.all flatV = true) : Ev (tBM K "list" (rCntF K) to (tCons ty tNil)) σ H (.int (ys.countP (fun z => eqV z y) : Nat)) := fun H1 e Q q => ho H1 e _ fun H2 e2 =>
  ⟨Or.inl ⟨rfl, ys, ex_l (e.trans e2) hs⟩, hy H2 (e.trans e2) _ fun H3 e3 => ⟨p, ys, y, rfl, rfl, ex_l ((e.trans e2).trans e3) hs, f1, f2, q H3 (e2.trans e3)⟩⟩
theorem ev_idxF {j : Nat} {z : V} (ho : Ev to σ H (.ref p)) (hs : SqL K H p ys) (hy : Ev ty σ H y) (f1 : flatV y = true) (f2 : ys.all flatV = true) (hj : ys[j]? = some z) (hz : eqV z y = true) (hn : ∀ (m : Nat) (z' : V), m < j → ys[m]? = some z' → eqV z' y = false) : Ev (tBM K "list" (rIndex K) to (tCons ty tNil)) σ H (.int (j : Nat)) := fun H1 e Q q => ho H1 e _ fun H2 e2 =>
  ⟨Or.inl ⟨rfl, ys, ex_l (e.trans e2) hs⟩, hy H2 (e.trans e2) _ fun H3 e3 => ⟨p, ys, y, j, z, rfl, rfl, ex_l ((e.trans e2).trans e3) hs, f1, f2, hj, hz, hn, q H3 (e2.trans e3)⟩⟩
theorem ev_xf (he : Ev te σ H (.ref a)) (hx : H dd = some (.xd fs)) (hl : fs.lookup n = some v) : Ev (tXf a (.ref C) (some dd) C n te) σ H v := fun H1 e Q q => he H1 e _ fun H2 e2 => ⟨rfl, rfl, dd, fs, v, rfl, e2 _ _ (e _ _ hx), hl, q H2 e2⟩
end
theorem eu_if {σ : L2.St} {H : Hp} {t : TT} {ta tb : TE} {xs : List V} {b : Bool} (h : EvT t σ H b) (h1 : b = true → EvU ta σ H xs) (h2 : b = false → EvU tb σ H xs) : EvU (tIf t ta tb) σ H xs := fun H1 e Q q => h H1 e _ fun H2 e2 => by
  cases b with
  | true => exact h1 rfl H2 (e.trans e2) Q fun p H3 n e3 x => q p H3 (fresh_back e2 n) (e2.trans e3) x
  | false => exact h2 rfl H2 (e.trans e2) Q fun p H3 n e3 x => q p H3 (fresh_back e2 n) (e2.trans e3) x
variable {P : Program} {w : World} {K : PySem.W.Frag} {mg : Str → Option Value} {base : Heap} {Z : Ad}
/-- what a call of no arguments raises, told as names and values -/
def NoneR (Q : VK) : Hp → Prop := fun H1 => ∀ p H2, H1 p = none → Ex H1 H2 → H2 p = some (.tup [.str "none"]) → Q (.ref p) H2
def BakR (Z : Ad) (Q : VK) : XK := fun cls d H1 => ∃ dd pt i, cls = .ref Z.c_InvalidBakery ∧ d = some dd ∧ H1 dd = some (.xd [("index", .int i), ("part", .str pt)]) ∧ ∀ p H2, H1 p = none → Ex H1 H2 → H2 p = some (.tup [.str "bakery", .str pt, .int i]) → Q (.ref p) H2

theorem ev_isXN {K : PySem.W.Frag} {σ : L2.St} {H : Hp} {te tc : TE} {a D : Addr} {c : V} {cv : Value} {b : Bool} (T : ExI K D) (he : Ev te σ H (.ref a)) (hc : Ev tc σ H c) (hcv : ∀ u, RelV c u → u = cv) (hb : PySem.W.kitOne K (.ref D) cv = some b) :
    Ev (tCB (rIsX K a (.ref D) none) (tCons te (tCons tc tNil))) σ H (.bl b) := fun H1 e Q q => he H1 e _ fun H2 e2 => hc H2 (e.trans e2) _ fun H3 e3 => ⟨D, c, cv, b, rfl, T, rfl, hcv, hb, fun d1 z => (nomatch z), q H3 (e2.trans e3)⟩
def NumR (Z : Ad) (Q : VK) : XK := fun cls d H1 => cls = .ref Z.c_InvalidNumber ∧ d = none ∧ ∀ p H2, H1 p = none → Ex H1 H2 → H2 p = some (.tup [.str "number"]) → Q (.ref p) H2
def DayR (Z : Ad) (Q : VK) : XK := fun cls d H1 => ∃ dd i, cls = .ref Z.c_InvalidDays ∧ d = some dd ∧ H1 dd = some (.xd [("index", .int i)]) ∧ ∀ p H2, H1 p = none → Ex H1 H2 → H2 p = some (.tup [.str "days", .int i]) → Q (.ref p) H2
def ConR (Z : Ad) (Q : VK) : XK := fun cls d H1 => cls = .ref Z.c_Contradiction ∧ d = none ∧ ∀ p H2, H1 p = none → Ex H1 H2 → H2 p = some (.tup [.str "contradiction"]) → Q (.ref p) H2
def ErrR (Z : Ad) (Q : VK) : XK := fun cls d H1 => BakR Z Q cls d H1 ∨ NumR Z Q cls d H1 ∨ DayR Z Q cls d H1 ∨ ConR Z Q cls d H1
def sp_err (P : Program) (w : World) (K : PySem.W.Frag) (mg : Str → Option Value) (base : Heap) (Z : Ad) : Sp := fun vs H Q _ => ∃ (f : Addr) (sp : Sp) (S : Hp), vs = [.ref f] ∧ Cal P w K mg base (L2.CX P w) 11 f sp S ∧ Ex S H ∧
  ∀ (Q1 : VK) (E1 : XK), (∀ v H1, NoneR Q H1 → Q1 v H1) → (∀ cls d H1, ErrR Z Q cls d H1 → E1 cls d H1) → sp [] H Q1 E1
theorem ok__law_error (T : Txt K mg Z) : FnOk P w K mg base CX0 12 Z.f__law_error Z.d__law_error p__law_error (sp_err P w K mg base Z) := by
  refine T.F__law_error.ok sc__law_error (fun vs H Q E h => ?_) (fun cdv Ar outer s H vs Q E hr h => ?_)
  · obtain ⟨f, sp, S, rfl, _⟩ := h
    rfl
  · obtain ⟨f, sp, S, rfl, C, eS, q⟩ := h
    refine ⟨_, (pss_cons (ps_try_as (i := 1) (Wout := fun _ _ _ _ => False) rfl rfl sc__law_error.nd rfl rfl ⟨rfl, by decide, Or.inl T.g_LoafError⟩ L2.takes0 (by exact (fun W pn xe tk _ => (pss_one (ps_expr (pe_calS (CX := L2.CX P w) (i := 0) (k := 11) P w K mg base rfl rfl rfl rfl rfl hr (by decide) (fun σ => passAt tk σ) rfl (by first | exact Or.inl rfl | exact Or.inr (Or.inl rfl) | exact Or.inr (Or.inr rfl))))))) (by exact (fun a oe cls d pn hz hf => (pss_cons (by exact (ps_set (i := 2) sc__law_error.nd rfl (Or.inl rfl) (pe_lst (pa_cons (pe_callB (r := rIsX K a cls d) (call_isX K rfl hz hf) (by rfl) T.b_isinstance boot_isinstance (pa_cons (pv 1) (pa_cons (pe_glob (by rfl) T.g_Contradiction (v := .ref Z.c_Contradiction) rfl) pa_nil))) (pa_cons (pe_callB (r := rIsX K a cls d) (call_isX K rfl hz hf) (by rfl) T.b_isinstance boot_isinstance (pa_cons (pv 1) (pa_cons (pe_glob (by rfl) T.g_InvalidBakery (v := .ref Z.c_InvalidBakery) rfl) pa_nil))) (pa_cons (pe_callB (r := rIsX K a cls d) (call_isX K rfl hz hf) (by rfl) T.b_isinstance boot_isinstance (pa_cons (pv 1) (pa_cons (pe_glob (by rfl) T.g_InvalidDays (v := .ref Z.c_InvalidDays) rfl) pa_nil))) pa_nil))))))
      (pss_cons (by exact (ps_expr (pe_bmK K rfl PySem.F.plainAttrs_list PySem.F.slot_list_append PySem.F.type_list_append mt_append (pv 2) (pa_cons (pe_callB (r := rIsX K a cls d) (call_isX K rfl hz hf) (by rfl) T.b_isinstance boot_isinstance (pa_cons (pv 1) (pa_cons (pe_glob (by rfl) T.g_InvalidNumber (v := .ref Z.c_InvalidNumber) rfl) pa_nil))) pa_nil))))
      (pss_cons (by exact (ps_if (PW.pt (pw_or (pt_cmpR op_ne (pe_bmK K rfl PySem.F.plainAttrs_list PySem.F.slot_list_count PySem.F.type_list_count (mt_lcountF K rfl) (pv 2) (pa_cons pe_bl pa_nil)) pe_int (nomark _)) (pw_or1 (pt_not (pt_val (pe_callB (r := rIsX K a cls d) (call_isX K rfl hz hf) (by rfl) T.b_isinstance boot_isinstance (pa_cons (pv 1) (pa_cons (pe_bltn (v := .ty "ValueError") (by rfl) T.b_ValueError PyProof.Rows.Boot.«ValueError» rfl) pa_nil)))))))) (pss_one (by exact (ps_ret (pe_tup (pa_cons pe_str pa_nil))))) pss_nil))
      (pss_cons (by exact (ps_set (i := 3) sc__law_error.nd rfl (Or.inl rfl) (pe_ix (r := rIxL K) ix_list (pe_lst (pa_cons pe_str (pa_cons pe_str (pa_cons pe_str (pa_cons pe_str pa_nil))))) (pe_bmK K rfl PySem.F.plainAttrs_list PySem.F.slot_list_index PySem.F.type_list_index (mt_indexK K rfl) (pv 2) (pa_cons pe_bl pa_nil)) (fun _ _ => rfl))))
      (pss_cons (by exact (ps_if (pt_cmpR op_eq (pv 3) pe_str (nomark _)) (pss_one (by exact (ps_ret (pe_tup (pa_cons (pv 3) (pa_cons (pe_xf T.xI_InvalidBakery.xf T.na_InvalidBakery_part hz hf (pv 1)) (pa_cons (pe_xf T.xI_InvalidBakery.xf T.na_InvalidBakery_index hz hf (pv 1)) pa_nil))))))) pss_nil))
      (pss_one (by exact (ps_ret (pe_ifExp (pt_cmpR op_eq (pv 3) pe_str (nomark _)) (pe_tup (pa_cons (pv 3) (pa_cons (pe_xf T.xI_InvalidDays.xf T.na_InvalidDays_index hz hf (pv 1)) pa_nil))) (pe_tup (pa_cons (pv 3) pa_nil))))))))))))))
      (pss_one (ps_ret (pe_tup (pa_cons pe_str pa_nil))))), ?_⟩
    refine ⟨f, sp, S, rfl, C, eS, q _ _ ?_ ?_⟩
    · intro v H1 h
      exact s_retU (σ := L2.start n__law_error [.ref f]) (xs := [.str "none"]) (eu_tup (ea_cons ev_c ea_nil) (by show 1 ≤ 100000; decide)) h
    rintro cls d H1 (⟨dd, pt, i, rfl, rfl, hx, h⟩ | ⟨rfl, rfl, h⟩ | ⟨dd, i, rfl, rfl, hx, h⟩ | ⟨rfl, rfl, h⟩)
    · refine ⟨true, T.xm_InvalidBakery, fun _ a na => ?_, fun z => nomatch z⟩
      refine q_asgL (xs := [.bl false, .bl true, .bl false]) (el_lst (ea_cons (ev_isX T.xI_InvalidBakery (ev_var rfl) ev_c (fun u r => r) T.xk_InvalidBakery_Contradiction hx) (ea_cons (ev_isX T.xI_InvalidBakery (ev_var rfl) ev_c (fun u r => r) T.xk_InvalidBakery_InvalidBakery hx) (ea_cons (ev_isX T.xI_InvalidBakery (ev_var rfl) ev_c (fun u r => r) T.xk_InvalidBakery_InvalidDays hx) ea_nil))) (by show 3 ≤ 100000; decide)) fun l H2 hl e2 h2 => ?_
      refine q_app h2 (ev_var rfl) (ev_isX T.xI_InvalidBakery (ev_var rfl) ev_c (fun u r => r) T.xk_InvalidBakery_InvalidNumber (e2 _ _ hx)) (by show 3 < 100000; decide) fun H3 e3 => ?_
      have nl : H1 l = none := hl
      have e4 : Ex H1 (upd H3 l (.lst ([V.bl false, .bl true, .bl false] ++ [.bl false]))) := fun b o z => by
        rw [upd_ne (ne_of_none z nl)]; exact e3 _ _ (e2 _ _ z)
      generalize hG : upd H3 l (.lst ([V.bl false, .bl true, .bl false] ++ [.bl false])) = H4 at e4 ⊢
      have h4 : H4 l = some (.lst [.bl false, .bl true, .bl false, .bl false]) := by rw [← hG, upd_same]; rfl
      have sl : SqL K H4 l [.bl false, .bl true, .bl false, .bl false] := sq_of h4
      have hx4 := e4 _ _ hx
      refine q_when (b := false) (et_is (et_or (et_test (ev_op (ev_cntF (ev_var rfl) sl ev_c rfl rfl) ev_c (rv_ne rfl))) fun _ => et_not (et_B (ev_isX T.xI_InvalidBakery (ev_var rfl) ev_c (fun u r => r) T.xv_InvalidBakery hx4))) (by decide)) (fun hb => nomatch hb) fun _ H5 e5 => ?_
      refine q_asg (v := .str "bakery") (ev_ixNL (i := 1) (xs := [.str "contradiction", .str "bakery", .str "days", .str "number"]) (el_lst (ea_cons ev_c (ea_cons ev_c (ea_cons ev_c (ea_cons ev_c ea_nil)))) (by show 4 ≤ 100000; decide)) (ev_idxF (j := 1) (ev_var rfl) (ex_l e5 sl) ev_c rfl rfl rfl rfl (fun m z' hm e => ?_)) rfl) fun H6 e6 => ?_
      · match m, hm, e with
        | 0, _, e => cases e; rfl
      have hx6 := e6 _ _ (e5 _ _ hx4)
      refine q_when (b := true) (et_is (et_test (ev_op (ev_var rfl) ev_c (rv_eq rfl))) (by simp)) (fun _ H7 e7 => ?_) fun hb => nomatch hb
      refine s_retU (xs := [.str "bakery", .str pt, .int i]) (eu_tup (ea_cons (ev_var rfl) (ea_cons (ev_xf (ev_var rfl) (e7 _ _ hx6) rfl) (ea_cons (ev_xf (ev_var rfl) (e7 _ _ hx6) rfl) ea_nil))) (by show 3 ≤ 100000; decide)) fun p H8 hp e8 h8 => ?_
      have e17 := ((e4.trans e5).trans e6).trans e7
      exact h p H8 (fresh_back e17 hp) (e17.trans e8) h8
    · refine ⟨true, T.xm_InvalidNumber, fun _ a na => ?_, fun z => nomatch z⟩
      refine q_asgL (xs := [.bl false, .bl false, .bl false]) (el_lst (ea_cons (ev_isXN T.xI_InvalidNumber (ev_var rfl) ev_c (fun u r => r) T.xk_InvalidNumber_Contradiction) (ea_cons (ev_isXN T.xI_InvalidNumber (ev_var rfl) ev_c (fun u r => r) T.xk_InvalidNumber_InvalidBakery) (ea_cons (ev_isXN T.xI_InvalidNumber (ev_var rfl) ev_c (fun u r => r) T.xk_InvalidNumber_InvalidDays) ea_nil))) (by show 3 ≤ 100000; decide)) fun l H2 hl e2 h2 => ?_
      refine q_app h2 (ev_var rfl) (ev_isXN T.xI_InvalidNumber (ev_var rfl) ev_c (fun u r => r) T.xk_InvalidNumber_InvalidNumber) (by show 3 < 100000; decide) fun H3 e3 => ?_
      have nl : H1 l = none := hl
      have e4 : Ex H1 (upd H3 l (.lst ([V.bl false, .bl false, .bl false] ++ [.bl true]))) := fun b o z => by
        rw [upd_ne (ne_of_none z nl)]; exact e3 _ _ (e2 _ _ z)
      generalize hG : upd H3 l (.lst ([V.bl false, .bl false, .bl false] ++ [.bl true])) = H4 at e4 ⊢
      have h4 : H4 l = some (.lst [.bl false, .bl false, .bl false, .bl true]) := by rw [← hG, upd_same]; rfl
      have sl : SqL K H4 l [.bl false, .bl false, .bl false, .bl true] := sq_of h4
      refine q_when (b := false) (et_is (et_or (et_test (ev_op (ev_cntF (ev_var rfl) sl ev_c rfl rfl) ev_c (rv_ne rfl))) fun _ => et_not (et_B (ev_isXN T.xI_InvalidNumber (ev_var rfl) ev_c (fun u r => r) T.xv_InvalidNumber))) (by decide)) (fun hb => nomatch hb) fun _ H5 e5 => ?_
      refine q_asg (v := .str "number") (ev_ixNL (i := 3) (xs := [.str "contradiction", .str "bakery", .str "days", .str "number"]) (el_lst (ea_cons ev_c (ea_cons ev_c (ea_cons ev_c (ea_cons ev_c ea_nil)))) (by show 4 ≤ 100000; decide)) (ev_idxF (j := 3) (ev_var rfl) (ex_l e5 sl) ev_c rfl rfl rfl rfl (fun m z' hm e => ?_)) rfl) fun H6 e6 => ?_
      · match m, hm, e with
        | 0, _, e => cases e; rfl
        | 1, _, e => cases e; rfl
        | 2, _, e => cases e; rfl
      refine q_when (b := false) (et_is (et_test (ev_op (ev_var rfl) ev_c (rv_eq rfl))) (by decide +kernel)) (fun hb => nomatch hb) fun _ H7 e7 => ?_
      refine s_retU (xs := [.str "number"]) (eu_if (b := false) (et_is (et_test (ev_op (ev_var rfl) ev_c (rv_eq rfl))) (by decide +kernel)) (fun hb => nomatch hb) fun _ => eu_tup (ea_cons (ev_var rfl) ea_nil) (by show 1 ≤ 100000; decide)) fun p H8 hp e8 h8 => ?_
      have e17 := ((e4.trans e5).trans e6).trans e7
      exact h p H8 (fresh_back e17 hp) (e17.trans e8) h8
    · refine ⟨true, T.xm_InvalidDays, fun _ a na => ?_, fun z => nomatch z⟩
      refine q_asgL (xs := [.bl false, .bl false, .bl true]) (el_lst (ea_cons (ev_isX T.xI_InvalidDays (ev_var rfl) ev_c (fun u r => r) T.xk_InvalidDays_Contradiction hx) (ea_cons (ev_isX T.xI_InvalidDays (ev_var rfl) ev_c (fun u r => r) T.xk_InvalidDays_InvalidBakery hx) (ea_cons (ev_isX T.xI_InvalidDays (ev_var rfl) ev_c (fun u r => r) T.xk_InvalidDays_InvalidDays hx) ea_nil))) (by show 3 ≤ 100000; decide)) fun l H2 hl e2 h2 => ?_
      refine q_app h2 (ev_var rfl) (ev_isX T.xI_InvalidDays (ev_var rfl) ev_c (fun u r => r) T.xk_InvalidDays_InvalidNumber (e2 _ _ hx)) (by show 3 < 100000; decide) fun H3 e3 => ?_
      have nl : H1 l = none := hl
      have e4 : Ex H1 (upd H3 l (.lst ([V.bl false, .bl false, .bl true] ++ [.bl false]))) := fun b o z => by
        rw [upd_ne (ne_of_none z nl)]; exact e3 _ _ (e2 _ _ z)
      generalize hG : upd H3 l (.lst ([V.bl false, .bl false, .bl true] ++ [.bl false])) = H4 at e4 ⊢
      have h4 : H4 l = some (.lst [.bl false, .bl false, .bl true, .bl false]) := by rw [← hG, upd_same]; rfl
      have sl : SqL K H4 l [.bl false, .bl false, .bl true, .bl false] := sq_of h4
      have hx4 := e4 _ _ hx
      refine q_when (b := false) (et_is (et_or (et_test (ev_op (ev_cntF (ev_var rfl) sl ev_c rfl rfl) ev_c (rv_ne rfl))) fun _ => et_not (et_B (ev_isX T.xI_InvalidDays (ev_var rfl) ev_c (fun u r => r) T.xv_InvalidDays hx4))) (by decide)) (fun hb => nomatch hb) fun _ H5 e5 => ?_
      refine q_asg (v := .str "days") (ev_ixNL (i := 2) (xs := [.str "contradiction", .str "bakery", .str "days", .str "number"]) (el_lst (ea_cons ev_c (ea_cons ev_c (ea_cons ev_c (ea_cons ev_c ea_nil)))) (by show 4 ≤ 100000; decide)) (ev_idxF (j := 2) (ev_var rfl) (ex_l e5 sl) ev_c rfl rfl rfl rfl (fun m z' hm e => ?_)) rfl) fun H6 e6 => ?_
      · match m, hm, e with
        | 0, _, e => cases e; rfl
        | 1, _, e => cases e; rfl
      have hx6 := e6 _ _ (e5 _ _ hx4)
      refine q_when (b := false) (et_is (et_test (ev_op (ev_var rfl) ev_c (rv_eq rfl))) (by decide +kernel)) (fun hb => nomatch hb) fun _ H7 e7 => ?_
      refine s_retU (xs := [.str "days", .int i]) (eu_if (b := true) (et_is (et_test (ev_op (ev_var rfl) ev_c (rv_eq rfl))) (by decide +kernel)) (fun _ => eu_tup (ea_cons (ev_var rfl) (ea_cons (ev_xf (ev_var rfl) (e7 _ _ hx6) rfl) ea_nil)) (by show 2 ≤ 100000; decide)) fun hb => nomatch hb) fun p H8 hp e8 h8 => ?_
      have e17 := ((e4.trans e5).trans e6).trans e7
      exact h p H8 (fresh_back e17 hp) (e17.trans e8) h8
    · refine ⟨true, T.xm_Contradiction, fun _ a na => ?_, fun z => nomatch z⟩
      refine q_asgL (xs := [.bl true, .bl false, .bl false]) (el_lst (ea_cons (ev_isXN T.xI_Contradiction (ev_var rfl) ev_c (fun u r => r) T.xk_Contradiction_Contradiction) (ea_cons (ev_isXN T.xI_Contradiction (ev_var rfl) ev_c (fun u r => r) T.xk_Contradiction_InvalidBakery) (ea_cons (ev_isXN T.xI_Contradiction (ev_var rfl) ev_c (fun u r => r) T.xk_Contradiction_InvalidDays) ea_nil))) (by show 3 ≤ 100000; decide)) fun l H2 hl e2 h2 => ?_
      refine q_app h2 (ev_var rfl) (ev_isXN T.xI_Contradiction (ev_var rfl) ev_c (fun u r => r) T.xk_Contradiction_InvalidNumber) (by show 3 < 100000; decide) fun H3 e3 => ?_
      have nl : H1 l = none := hl
      have e4 : Ex H1 (upd H3 l (.lst ([V.bl true, .bl false, .bl false] ++ [.bl false]))) := fun b o z => by
        rw [upd_ne (ne_of_none z nl)]; exact e3 _ _ (e2 _ _ z)
      generalize hG : upd H3 l (.lst ([V.bl true, .bl false, .bl false] ++ [.bl false])) = H4 at e4 ⊢
      have h4 : H4 l = some (.lst [.bl true, .bl false, .bl false, .bl false]) := by rw [← hG, upd_same]; rfl
      have sl : SqL K H4 l [.bl true, .bl false, .bl false, .bl false] := sq_of h4
      refine q_when (b := false) (et_is (et_or (et_test (ev_op (ev_cntF (ev_var rfl) sl ev_c rfl rfl) ev_c (rv_ne rfl))) fun _ => et_not (et_B (ev_isXN T.xI_Contradiction (ev_var rfl) ev_c (fun u r => r) T.xv_Contradiction))) (by decide)) (fun hb => nomatch hb) fun _ H5 e5 => ?_
      refine q_asg (v := .str "contradiction") (ev_ixNL (i := 0) (xs := [.str "contradiction", .str "bakery", .str "days", .str "number"]) (el_lst (ea_cons ev_c (ea_cons ev_c (ea_cons ev_c (ea_cons ev_c ea_nil)))) (by show 4 ≤ 100000; decide)) (ev_idxF (j := 0) (ev_var rfl) (ex_l e5 sl) ev_c rfl rfl rfl rfl (fun m z' hm e => absurd hm (Nat.not_lt_zero _))) rfl) fun H6 e6 => ?_
      refine q_when (b := false) (et_is (et_test (ev_op (ev_var rfl) ev_c (rv_eq rfl))) (by decide +kernel)) (fun hb => nomatch hb) fun _ H7 e7 => ?_
      refine s_retU (xs := [.str "contradiction"]) (eu_if (b := false) (et_is (et_test (ev_op (ev_var rfl) ev_c (rv_eq rfl))) (by decide +kernel)) (fun hb => nomatch hb) fun _ => eu_tup (ea_cons (ev_var rfl) ea_nil) (by show 1 ≤ 100000; decide)) fun p H8 hp e8 h8 => ?_
      have e17 := ((e4.trans e5).trans e6).trans e7
      exact h p H8 (fresh_back e17 hp) (e17.trans e8) h8
/-! ### a number out of its range -/
def sp_numX (Z : Ad) : Sp := fun vs H _ E => ∃ n lo hi : Int, vs = [.int n, .int lo, .int hi] ∧ (n < lo ∨ hi < n) ∧ n.natAbs < 10 ^ 30 ∧ lo.natAbs < 10 ^ 30 ∧ hi.natAbs < 10 ^ 30 ∧ ∀ H', Ex H H' → E (.ref Z.c_InvalidNumber) none H'
theorem log_sm {i : Int} (h : i.natAbs < 10 ^ 30) : i.natAbs.log2 < 1920 := by
  rcases Nat.eq_zero_or_pos i.natAbs with q | q
  · rw [q]; decide
  · exact (Nat.log2_lt (by omega)).mpr (Nat.lt_of_lt_of_le h (by decide))
theorem len_sm {i : Int} (h : i.natAbs < 10 ^ 30) : (Str.ofString (toString i)).length ≤ 31 := by
  rw [PySem.ofString_length]
  exact int_text_length_le10 (k := 30) (by decide) h
theorem okX_check_number (T : Txt K mg Z) (hP : P = Z.P) : FnOk P w K mg base (L2.CX P w) 1 Z.f_check_number Z.d_check_number p_check_number (sp_numX Z) := by
  refine T.F_check_number.okX sc_check_number (fun vs H Q E h => ?_) (fun cdv Ar outer s H vs Q E hr h => ?_)
  · obtain ⟨n, lo, hi, rfl, _⟩ := h
    rfl
  · obtain ⟨n, lo, hi, rfl, hb, h1, h2, h3, k⟩ := h
    refine ⟨_, (pss_one (ps_if (PW.pt (pw_or (pt_cmpR op_lt (pv 0) (pv 1) (nomark _)) (pw_or1 (pt_cmpR op_gt (pv 0) (pv 2) (nomark _))))) (pss_one (ps_raise rfl (takes_of rfl rfl rfl rfl) (pmk_ownA PySem.F.excBase_ValueError T.xp_InvalidNumber T.g_InvalidNumber T.xq_InvalidNumber (raises_own T.xb_InvalidNumber T.xy_InvalidNumber) (by rfl) (pa_cons (pe_joined (.cons (pe_fmt (pv 0)) (.cons pe_str (.cons (pe_fmt (pv 1)) (.cons pe_str (.cons (pe_fmt (pv 2)) .nil)))))) pa_nil)))) pss_nil)), ?_⟩
    refine s_when (b := true) (et_is (et_or (et_test (by walk_at "ev")) fun _ => et_test (by walk_at "ev")) (by simp; omega)) (fun _ H1 e1 => ?_) fun hb => nomatch hb
    have hz := sizeLine_eq
    have a1 := len_sm h1
    have a2 := len_sm h2
    have a3 := len_sm h3
    have l0 : Str.empty.length = 0 := rfl
    have l1 : (Str.ofString " is not from ").length = 13 := by decide +kernel
    have l2 : (Str.ofString " to ").length = 4 := by decide +kernel
    refine ⟨_, rfl, .inr ⟨n, rfl, log_sm h1, _, rfl, ?_, _, rfl, ?_, _, rfl, .inr ⟨lo, rfl, log_sm h2, _, rfl, ?_, _, rfl, ?_, _, rfl, .inr ⟨hi, rfl, log_sm h3, _, rfl, ?_, by show 1 ≤ sizeLine; omega, k H1 e1⟩⟩⟩⟩
    · rw [Str.length_append]; omega
    · simp only [Str.length_append]; omega
    · simp only [Str.length_append]; omega
    · simp only [Str.length_append]; omega
    · simp only [Str.length_append]; omega
end Sw
namespace Sw
open PySem PySem.Spec PyProof.Rows L2 Evl LamX NdefX
local macro_rules | `(tactic| walk_at "ev") => `(tactic| first
  | exact ev_c
  | exact ev_var rfl
  | ((with_reducible show Ev (tCB rMax2 _) _ _ _); exact ev_maxi (by walk_at "ev") (by walk_at "ev"))
  | ((with_reducible show Ev (tCB rMn _) _ _ _); exact ev_min2 (by walk_at "ev") (by walk_at "ev"))
  | ((with_reducible show Ev (tUn _ _) _ _ _); exact ev_un (by walk_at "ev") ru_neg)
  | ((with_reducible show Ev (tFld _ _ _) _ _ _); exact ev_fldK (by walk_at "ev") (by assumption))
  | ((with_reducible show Ev (tOp (rI0 _) _ _) _ _ _); exact ev_op (by walk_at "ev") (by walk_at "ev") rv_I0)
  | ((with_reducible show Ev (tOp rEq _ _) _ _ _); exact ev_op (by walk_at "ev") (by walk_at "ev") (rv_eq rfl))
  | ((with_reducible show Ev (tOp rNe _ _) _ _ _); exact ev_op (by walk_at "ev") (by walk_at "ev") (rv_ne rfl)))

variable {P : Program} {w : World} {K : PySem.W.Frag} {mg : Str → Option Value} {base : Heap} {Z : Ad}
def sp_Bbakes (K : PySem.W.Frag) (Z : Ad) : Sp := fun vs H Q _ => ∃ (b : Addr) (bs ds : List Int) (life : Int) (i : Nat), vs = [.ref b] ∧ BakAt K Z H b bs ds life i ∧ ∀ p H', Ex H H' → SqT K H' p (bs.map V.int) → Q (.ref p) H'
theorem ok_Bakery_bakes (T : Txt K mg Z) : FnOk P w K mg base CX0 1 Z.f_Bakery_bakes Z.d_Bakery_bakes p_Bakery_bakes (sp_Bbakes K Z) := by
  refine T.F_Bakery_bakes.ok sc_Bakery_bakes (fun vs H Q E h => ?_) (fun cdv Ar outer s H vs Q E hr h => ?_)
  · obtain ⟨b, bs, ds, life, i, rfl, _⟩ := h
    rfl
  · obtain ⟨b, bs, ds, life, i, rfl, hB, k⟩ := h
    obtain ⟨tl, fl, hl⟩ := hB.fb
    refine ⟨_, (pss_one (ps_ret (pe_fldK K rfl (pv 0) rfl))), ?_⟩
    exact s_ret (by walk_at "ev") fun H1 e1 => k tl H1 e1 (ex_t e1 hl)
def sp_Blife (K : PySem.W.Frag) (Z : Ad) : Sp := fun vs H Q _ => ∃ (b : Addr) (bs ds : List Int) (life : Int) (i : Nat), vs = [.ref b] ∧ BakAt K Z H b bs ds life i ∧ RetV (.int life) H Q
theorem ok_Bakery_life (T : Txt K mg Z) : FnOk P w K mg base CX0 1 Z.f_Bakery_life Z.d_Bakery_life p_Bakery_life (sp_Blife K Z) := by
  refine T.F_Bakery_life.ok sc_Bakery_life (fun vs H Q E h => ?_) (fun cdv Ar outer s H vs Q E hr h => ?_)
  · obtain ⟨b, bs, ds, life, i, rfl, _⟩ := h
    rfl
  · obtain ⟨b, bs, ds, life, i, rfl, hB, k⟩ := h
    have fl := hB.fl
    refine ⟨_, (pss_one (ps_ret (pe_fldK K rfl (pv 0) rfl))), ?_⟩
    exact s_ret (by walk_at "ev") fun H1 e1 => k H1 e1
section
variable {σ : L2.St} {H : Hp} {ta tb te : TE} {b : Addr} {bs ds : List Int} {life : Int} {i : Nat} {E : XK}
theorem ew_bks (h : Ev ta σ H (.ref b)) (hB : BakAt K Z H b bs ds life i) : EvW K (tProp Z.c_Bakery (sp_Bbakes K Z) [] E ta) σ H (bs.map V.int) := fun H1 e Q q =>
  h H1 e _ fun H2 e2 => let ⟨dx, fs, h1⟩ := hB.inst; ⟨b, dx, fs, rfl, e2 _ _ (e _ _ h1), b, bs, ds, life, i, rfl, hB.mono (e.trans e2), fun p H3 e3 h3 => q p H3 (e2.trans e3) h3⟩
theorem ev_lenW {xs : List V} (h : EvW K ta σ H xs) : Ev (tCB (rLenS K) (tCons ta tNil)) σ H (.int (xs.length : Int)) := fun H1 e Q q => h H1 e _ fun p H2 e2 h2 => ⟨p, xs, rfl, Or.inr h2, q H2 e2⟩
theorem ev_lifeP (h : Ev ta σ H (.ref b)) (hB : BakAt K Z H b bs ds life i) : Ev (tProp Z.c_Bakery (sp_Blife K Z) [] E ta) σ H (.int life) := fun H1 e Q q => h H1 e _ fun H2 e2 => let ⟨dx, fs, h1⟩ := hB.inst; ⟨b, dx, fs, rfl, e2 _ _ (e _ _ h1), b, bs, ds, life, i, rfl, hB.mono (e.trans e2), fun H3 e3 => q H3 (e2.trans e3)⟩
end
theorem ok_Bakery_sold (T : Txt K mg Z) : FnOk P w K mg base CX0 4 Z.f_Bakery_sold Z.d_Bakery_sold p_Bakery_sold (sp_Bday K Z 0) := by
  refine T.F_Bakery_sold.ok sc_Bakery_sold (fun vs H Q E h => ?_) (fun cdv Ar outer s H vs Q E hr h => ?_)
  · obtain ⟨b, bs, ds, life, i, t, rfl, _⟩ := h
    rfl
  · obtain ⟨b, bs, ds, life, i, t, rfl, ht, hB, k⟩ := h
    refine ⟨_, (pss_cons (ps_expr (pe_call (ok_check_number T) (hr.mono (by decide)) (by rfl) T.g_check_number T.F_check_number.kp T.b_check_number .nil pass0 (pa_cons (pv 1) (pa_cons pe_int (pa_cons (pe_glob (v := .int 1000000000000000000) (by rfl) T.g_LAST_DAY ⟨_, rfl⟩) pa_nil)))))
      (pss_one (ps_ret (pe_ix (r := rIxT K) ix_tup (pe_meth (pe_fldK K rfl (pv 0) rfl) T.cl_Course T.m_Course_sales_on (ok_Course_sales_on T) (hr.mono (by decide)) T.b_Course_sales_on .nil pass0 (pa_cons (pv 1) pa_nil)) pe_int (fun _ _ => rfl))))), ?_⟩
    refine q_drop (ev_call (ea_cons (ev_var rfl) (ea_cons ev_c (ea_cons ev_c ea_nil))) (spv_num (by omega) ht)) fun H1 e1 => ?_
    obtain ⟨c, fc, hC⟩ := (hB.mono e1).fc
    obtain ⟨tb, td, tk, s⟩ := hC.sr
    have hs : salesI bs ds (keepL bs life) (gainOf bs ds) (firstOf bs ds (keepL bs life)) (fullOf bs ds (keepL bs life)) (t : Int) = _ := sales_is hB.com t
    refine s_ret (ev_ixNU (i := 0) (v := .int (solS bs ds (keepL bs life) t)) (eu_meth (by walk_at "ev") (hC.nf _ (by decide)) (ea_cons (ev_var rfl) ea_nil) (spu_sales_on s)) ev_c (by rw [hs]; rfl)) fun H2 e2 => k H2 (e1.trans e2)
end Sw
namespace Sw
open PySem PySem.Spec PyProof.Rows L2 Evl LamX NdefX
local macro_rules | `(tactic| walk_at "ev") => `(tactic| first
  | exact ev_c
  | exact ev_var rfl
  | ((with_reducible show Ev (tCB rMax2 _) _ _ _); exact ev_maxi (by walk_at "ev") (by walk_at "ev"))
  | ((with_reducible show Ev (tCB rMn _) _ _ _); exact ev_min2 (by walk_at "ev") (by walk_at "ev"))
  | ((with_reducible show Ev (tUn _ _) _ _ _); exact ev_un (by walk_at "ev") ru_neg)
  | ((with_reducible show Ev (tFld _ _ _) _ _ _); exact ev_fldK (by walk_at "ev") (by assumption))
  | ((with_reducible show Ev (tOp (rI0 _) _ _) _ _ _); exact ev_op (by walk_at "ev") (by walk_at "ev") rv_I0)
  | ((with_reducible show Ev (tOp rEq _ _) _ _ _); exact ev_op (by walk_at "ev") (by walk_at "ev") (rv_eq rfl))
  | ((with_reducible show Ev (tOp rNe _ _) _ _ _); exact ev_op (by walk_at "ev") (by walk_at "ev") (rv_ne rfl)))

/-! ### comprehensions: pairs from zip, new objects -/
section
variable {X : Cx}
theorem pi_zipK (K : PySem.W.Frag) {e e2 : Expr} {ta : TA} {p pos tpos : Pos} {elts : List Expr} {kk : Nat} (hK : X.K = K) (hg : Gl X "zip") (hm : X.mg "zip" = none) (ha : PA X [e, e2] ta)
    (hs : starEach [e, e2] X.env = (false, eval e X.env) :: starEach [e2] X.env := by rfl) (hpl : (backTo pos (starEach [e2] X.env)).any (·.1) = false := by rfl) :
    PI X (.Tuple elts kk tpos) (.Call (.Name "zip" p) [e, e2] [] pos) (iZip K ta) := by
  subst hK
  exact pi_zip hg hm ha hs hpl
end
theorem given_gen {α : Type} {ns : List α} {d : α} {f : α → Bool} {v : α → V} : given ns.length (fun i => f (ns.getD i d)) (fun i => v (ns.getD i d)) = (ns.filter f).map v := by
  have e : ns = (List.range ns.length).map fun i => ns.getD i d := by
    apply List.ext_getElem
    · simp
    · intro i h1 h2
      simp [List.getD, h1]
  have e2 : ns.filter f = ((List.range ns.length).filter fun i => f (ns.getD i d)).map fun i => ns.getD i d := by
    conv => lhs; rw [e]
    rw [List.filter_map]; rfl
  rw [e2, List.map_map]; rfl
theorem given_map {α : Type} {ns : List α} {d : α} {v : α → V} : given ns.length (fun _ => true) (fun i => v (ns.getD i d)) = ns.map v := by
  have z := given_gen (ns := ns) (d := d) (f := fun _ => true) (v := v)
  rw [List.filter_eq_self.mpr (fun _ _ => rfl)] at z
  exact z
theorem at_mapG {α : Type} {ns : List α} {v : α → V} {d : α} {i : Nat} {x : V} (h : (ns.map v)[i]? = some x) : x = v (ns.getD i d) ∧ i < ns.length ∧ ns.getD i d ∈ ns := by
  rw [List.getElem?_map] at h
  obtain ⟨y, hy, rfl⟩ := Option.map_eq_some_iff.mp h
  obtain ⟨lt, e⟩ := List.getElem?_eq_some_iff.mp hy
  have e2 : ns.getD i d = y := by simp [List.getD, hy]
  rw [e2]
  exact ⟨rfl, lt, List.mem_of_getElem? hy⟩
section
variable {K : PySem.W.Frag} {σ : L2.St} {H H' : Hp} {ta tb te : TE} {x y z v : V} {a b : Addr} {xs ys : List V} {D : Ends} {tz : TS}
theorem el_eq {zs : List V} (h : EvL te σ H zs) (e : zs = xs) : EvL te σ H xs := e ▸ h
theorem wipeP {j1 j2 : Nat} (hne : j1 ≠ j2) (x y : V) : wipe (((wipe σ [j1, j2]).set j1 (some x)).set j2 (some y)) [j1, j2] = wipe σ [j1, j2] := by
  simp only [wipe]
  rw [List.set_set, List.set_set, List.set_comm _ _ hne, List.set_set, List.set_set]
theorem el_lcZ {j1 j2 : Nat} {t : TA} {tt : TT} (hne : j1 ≠ j2) (h : EvA t σ H [.ref a, .ref b]) (hx : SqL K H a xs) (hy : SqL K H b ys) (hl : xs.length = ys.length) (hz : xs.length ≤ 40000) (f : Nat → Bool) (v : Nat → V)
    (ht : ∀ (i : Nat) x y H1, Ex H H1 → xs[i]? = some x → ys[i]? = some y → EvT tt (((wipe σ [j1, j2]).set j1 (some x)).set j2 (some y)) H1 (f i)) (he : ∀ (i : Nat) x y H1, Ex H H1 → xs[i]? = some x → ys[i]? = some y → f i = true → Ev te (((wipe σ [j1, j2]).set j1 (some x)).set j2 (some y)) H1 (v i)) :
    EvL (tLc (iZip K t) (gTup K 2 (gCons (gName j1) (gCons (gName j2) gNil))) tt te [j1, j2]) σ H (given xs.length f v) := fun H0 e0 Q q =>
  h H0 e0 _ fun H1 e1 => ⟨a, b, xs, ys, rfl, ex_l (e0.trans e1) hx, ex_l (e0.trans e1) hy, fun Dl hD => by
    have e01 := e0.trans e1
    refine lc_it (walk_zip (K := K) (a := a) (b := b) (xs := xs) (ys := ys) (n := xs.length) (by omega)) (Cw H1 f v Dl) ⟨hD, Ex.new hD, upd_same⟩ (fun i H' _ p => ⟨ex_l (e01.trans p.2.1) hx, ex_l (e01.trans p.2.1) hy⟩) (fun i w H' H2 hi p y => ?_) (fun H' p => q Dl H' (fresh_back e1 p.1) (e1.trans p.2.1) p.2.2)
    obtain ⟨T, x, y, rfl, hT, rfl, q1, q2⟩ := y
    have p' : Cw H1 f v Dl i (upd H' T (.tup [x, y])) := ⟨p.1, p.2.1.trans (Ex.new hT), (Ex.new hT) _ _ p.2.2⟩
    refine ⟨T, [x, y], rfl, st_of upd_same, rfl, _, _, rfl, _, _, rfl, rfl, wipeP hne _ _, ?_⟩
    exact cw_turn p' (by omega) (ht i x y H1 e01 q1 q2) (fun hf => he i x y H1 e01 q1 q2 hf)⟩
theorem er_lcO {j : Nat} {vs : List Nat} {t : TA} {lo hi : Int} {M : Addr → Prop} {Pr : Int → Addr → Hp → Prop} (h : EvA t σ H [.int lo, .int hi]) (hn : 0 ≤ lo ∧ lo ≤ hi ∧ hi ≤ 10000) (hw : ∀ x, wipe ((wipe σ vs).set j (some x)) vs = wipe σ vs) (mono : ∀ i p H1 H2, Ex H1 H2 → Pr i p H1 → Pr i p H2)
    (he : ∀ (i : Int) H1 (M' : Addr → Prop), Ex H H1 → Ex (wn H M) (wn H1 M') → lo ≤ i → i < hi → EvR te ((wipe σ vs).set j (some (.int i))) H1 M' (Pr i)) :
    EvR (tLc (iRng2 t) (gName j) tYes te vs) σ H M (fun p G => ∃ bl : List (Addr × Int), G p = some (.lst (bl.map fun x => V.ref x.1)) ∧ bl.map (·.2) = (List.range (hi - lo).toNat).map (fun (k : Nat) => lo + (k : Int)) ∧ ∀ x ∈ bl, Pr x.2 x.1 G) := fun H0 e0 kn Q q =>
  h H0 e0 _ fun H1 e1 => ⟨lo, hi, rfl, ⟨by omega, by omega, by omega, by omega⟩, fun Dl hD => by
    have nH : H Dl = none := fresh_back (e0.trans e1) hD
    have nM : ¬ M Dl := fun z => kn Dl z (fresh_back e1 hD)
    refine lc_range (lo := lo) (n := (hi - lo).toNat) (fun i H' => Ex H1 H' ∧ ∃ bl : List (Addr × Int), H' Dl = some (.lst (bl.map fun x => V.ref x.1)) ∧ bl.map (·.2) = (List.range i).map (fun (k : Nat) => lo + (k : Int)) ∧ ∀ x ∈ bl, Pr x.2 x.1 (wn H' (nx Dl M))) ⟨Ex.new hD, [], upd_same, rfl, by simp⟩ (fun i H' hi' p => ?_) (fun H' p => ?_)
    · obtain ⟨eH, bl, hL, hm, hP⟩ := p
      refine ⟨hw _, ?_⟩
      show te ((wipe σ vs).set j (some (.int (lo + (i : Int))))) H' _
      refine he (lo + (i : Int)) H' (nx Dl M) ((e0.trans e1).trans eH) (fun b o hb => ?_) (by omega) (by omega) H' (Ex.refl _) (fun b hb => ?_) _ fun p H3 np e3 hP3 => ?_
      · obtain ⟨q1, q2⟩ := wn_some hb
        rw [wn_ni (fun z => z.elim (fun z => by rw [z, nH] at q2; cases q2) q1)]
        exact ((e0.trans e1).trans eH) _ _ q2
      · rcases hb with rfl | hb
        · rw [hL]; exact fun z => nomatch z
        · exact fun z => kn b hb (fresh_back (e1.trans eH) z)
      · have h3 := e3 _ _ hL
        have hl3 : bl.length = i := by
          have z := congrArg List.length hm
          simpa using z
        have w3 : Ex (wn H3 (nx Dl M)) (wn (upd H3 Dl (.lst ((bl.map fun x => V.ref x.1) ++ [.ref p]))) (nx Dl M)) := wn_upd (.inl rfl)
        refine ⟨_, h3, by rw [List.length_map]; exact sz_lt (by omega), Ex.mut (eH.trans e3) hD, bl ++ [(p, lo + (i : Int))], by rw [upd_same, List.map_append]; rfl, by rw [List.map_append, hm, List.range_succ, List.map_append]; rfl, fun x hx => ?_⟩
        rcases List.mem_append.mp hx with z | z
        · exact mono _ _ _ _ ((wn_mono e3).trans w3) (hP x z)
        · rw [List.mem_singleton.mp z]; exact mono _ _ _ _ w3 hP3
    · obtain ⟨eH, bl, hL, hm, hP⟩ := p
      exact q Dl H' (fresh_back e1 hD) (e1.trans eH) ⟨bl, (wn_ni nM).trans hL, hm, fun x hx => mono _ _ _ _ (wn_sub fun b z => .inr z) (hP x hx)⟩⟩
theorem r_meth {C : Addr} {m : Str} {sp : Sp} {dvs : List V} {E : XK} {t : TA} {Q : VK} (h : Ev ta σ H (.ref a)) (nf : NoF H a C m) (k : ∀ H1, Ex H H1 → t σ H1 fun vs H2 => sp (.ref a :: (vs ++ dvs)) H2 Q E) : tMeth C m sp dvs E ta t σ H Q :=
  h H (Ex.refl _) _ fun H2 e2 => let ⟨dx, fs, h1, h2⟩ := nf; ⟨a, dx, fs, rfl, e2 _ _ h1, h2, k H2 e2⟩
theorem s_fldN {C dx : Addr} {fs : List (Str × V)} {f : Str} {M : Addr → Prop} (ha : M a) (kn : ∀ b, M b → H b ≠ none) (h : EvL te σ H xs) (ho : ∀ H1, Ex H H1 → Ev ta σ H1 (.ref a)) (hx : H a = some (.ins C dx fs)) (c : Cls K C) (n : NoAttr K C f) (hl : fs.length < 1000)
    (k : ∀ p S, H p = none → S p = some (.lst xs) → S a = some (.ins C dx (putF f (.ref p) fs)) → Go M a H S → D.nx σ S) : sFld K ta te f D σ H := s_fldL h ho hx c n hl fun p H1 hp e h1 =>
  k p _ hp (by rw [upd_ne (fun z => kn a ha (by rw [← z]; exact hp))]; exact h1) upd_same (Go.up ha kn e)
end
/-! ### an observer -/
def oa (o A : Addr) : Addr → Prop := fun b => b = o ∨ b = A
abbrev Rec := Str × Int × Int
def obsMeths : List Str := ["see_sold", "see_thrown", "see_stock", "telling_day", "_accept", "possible_lives", "records"]
structure ObsAt (K : PySem.W.Frag) (Z : Ad) (H : Hp) (o : Addr) (bs ds : List Int) (F A : Addr) (bl : List (Addr × Int)) (rl : List (Addr × Rec)) : Prop where
  inst : ∃ dx, H o = some (.ins Z.c_LifeObserver dx [("_fitting", .ref F), ("_accepted", .ref A)])
  cl : Cls K Z.c_LifeObserver
  n1 : NoAttr K Z.c_LifeObserver "_fitting"
  n2 : NoAttr K Z.c_LifeObserver "_accepted"
  hF : H F = some (.lst (bl.map fun x => V.ref x.1))
  hA : H A = some (.lst (rl.map fun x => V.ref x.1))
  bak : ∀ x ∈ bl, ∃ i, BakAt K Z (wn H (oa o A)) x.1 bs ds x.2 i
  rc : ∀ x ∈ rl, H x.1 = some (.tup [.str x.2.1, .int x.2.2.1, .int x.2.2.2])
  gd : Good bs ds
  nb : bl.length ≤ 30
  nr : rl.length ≤ 1000
section
variable {K : PySem.W.Frag} {Z : Ad} {H H' : Hp} {o F A : Addr} {bs ds : List Int} {bl : List (Addr × Int)} {rl : List (Addr × Rec)}
theorem ObsAt.mono (e : Ex H H') (h : ObsAt K Z H o bs ds F A bl rl) : ObsAt K Z H' o bs ds F A bl rl :=
  ⟨let ⟨dx, x⟩ := h.inst; ⟨dx, e _ _ x⟩, h.cl, h.n1, h.n2, e _ _ h.hF, e _ _ h.hA, fun x hx => let ⟨i, y⟩ := h.bak x hx; ⟨i, y.mono (wn_mono e)⟩, fun x hx => e _ _ (h.rc x hx), h.gd, h.nb, h.nr⟩
theorem ObsAt.fF (h : ObsAt K Z H o bs ds F A bl rl) : FlK K H o Z.c_LifeObserver "_fitting" (.ref F) := let ⟨_, x⟩ := h.inst; flk_of x h.cl h.n1 rfl
theorem ObsAt.fA (h : ObsAt K Z H o bs ds F A bl rl) : FlK K H o Z.c_LifeObserver "_accepted" (.ref A) := let ⟨_, x⟩ := h.inst; flk_of x h.cl h.n2 rfl
theorem ObsAt.nf (h : ObsAt K Z H o bs ds F A bl rl) {m : Str} (hm : m ∈ obsMeths) : NoF H o Z.c_LifeObserver m := let ⟨dx, x⟩ := h.inst; ⟨dx, _, x, by
  simp only [obsMeths, List.mem_cons, List.not_mem_nil, or_false] at hm
  rcases hm with rfl | rfl | rfl | rfl | rfl | rfl | rfl <;> rfl⟩
theorem ObsAt.bk (h : ObsAt K Z H o bs ds F A bl rl) {x : Addr × Int} (hx : x ∈ bl) : ∃ i, BakAt K Z H x.1 bs ds x.2 i := let ⟨i, y⟩ := h.bak x hx; ⟨i, y.mono wn_ex⟩
end
end Sw
namespace Sw
open PySem PySem.Spec PyProof.Rows L2 Evl LamX NdefX
local macro_rules | `(tactic| walk_at "ev") => `(tactic| first
  | exact ev_c
  | exact ev_var rfl
  | ((with_reducible show Ev (tCB rMax2 _) _ _ _); exact ev_maxi (by walk_at "ev") (by walk_at "ev"))
  | ((with_reducible show Ev (tCB rMn _) _ _ _); exact ev_min2 (by walk_at "ev") (by walk_at "ev"))
  | ((with_reducible show Ev (tUn _ _) _ _ _); exact ev_un (by walk_at "ev") ru_neg)
  | ((with_reducible show Ev (tFld _ _ _) _ _ _); exact ev_fldK (by walk_at "ev") (by assumption))
  | ((with_reducible show Ev (tOp (rI0 _) _ _) _ _ _); exact ev_op (by walk_at "ev") (by walk_at "ev") rv_I0)
  | ((with_reducible show Ev (tOp rEq _ _) _ _ _); exact ev_op (by walk_at "ev") (by walk_at "ev") (rv_eq rfl))
  | ((with_reducible show Ev (tOp rNe _ _) _ _ _); exact ev_op (by walk_at "ev") (by walk_at "ev") (rv_ne rfl)))

variable {P : Program} {w : World} {K : PySem.W.Frag} {mg : Str → Option Value} {base : Heap} {Z : Ad}
/-! ### an observer is made -/
def lives : List Int := (List.range 30).map fun (k : Nat) => (1 : Int) + (k : Int)
def sp_Oinit (K : PySem.W.Frag) (Z : Ad) : Sp := fun vs H Q _ => ∃ (x dx tb td : Addr) (bs ds : List Int) (N : Addr → Prop), vs = [.ref x, .ref tb, .ref td] ∧ H x = some (.ins Z.c_LifeObserver dx []) ∧
  SqT K (wn H N) tb (bs.map V.int) ∧ SqT K (wn H N) td (ds.map V.int) ∧ Good bs ds ∧ (∀ b, N b → H b ≠ none) ∧ ¬ N x ∧
  ∀ H' F A bl, ObsAt K Z (wn H' N) x bs ds F A bl [] → bl.map (·.2) = lives → H A = none → (∀ b o, H b = some o → b ≠ x → H' b = some o) → Q .non H'
theorem er_observer {σ : L2.St} {H : Hp} {M : Addr → Prop} {t : TA} {tb td : Addr} {bs ds : List Int} {E : XK} (ht : EvA t σ H [.ref tb, .ref td]) (hb : SqT K (wn H M) tb (bs.map V.int)) (hd : SqT K (wn H M) td (ds.map V.int)) (gd : Good bs ds) :
    ∀ H1, Ex H H1 → (∀ b, M b → H1 b ≠ none) → ∀ Q : VK, (∀ p H2 F A bl, H1 p = none → H1 A = none → Ex H1 H2 → ObsAt K Z (wn H2 M) p bs ds F A bl [] → bl.map (·.2) = lives → Q (.ref p) H2) → tMake Z.c_LifeObserver (sp_Oinit K Z) [] E t σ H1 Q := fun H1 e1 kn Q q => ht H1 e1 _ fun H2 e2 x dx hx hdx hne => by
  have eN : Ex H2 (upd (upd H2 dx (.own x)) x (.ins Z.c_LifeObserver dx [])) := fun b o hbo => by
    rw [upd_ne (ne_of_none hbo hx), upd_ne (ne_of_none hbo hdx)]; exact hbo
  have kn2 : ∀ b, M b → H2 b ≠ none := fun b hb z => kn b hb (fresh_back e2 z)
  refine ⟨x, dx, tb, td, bs, ds, M, rfl, upd_same, ex_t (wn_mono ((e1.trans e2).trans eN)) hb, ex_t (wn_mono ((e1.trans e2).trans eN)) hd, gd, fun b hb z => kn2 b hb (fresh_back eN z), fun z => kn2 x z hx, fun H3 F A bl hO hl hA k => ⟨rfl, ?_⟩⟩
  exact q x H3 F A bl (fresh_back e2 hx) (fresh_back (e2.trans eN) hA) (e2.trans fun b o hbo => k b o (eN b o hbo) (ne_of_none hbo hx)) hO hl
theorem ok_LifeObserver___init__ (T : Txt K mg Z) : FnOk P w K mg base CX0 8 Z.f_LifeObserver___init__ Z.d_LifeObserver___init__ p_LifeObserver___init__ (sp_Oinit K Z) := by
  refine T.F_LifeObserver___init__.ok sc_LifeObserver___init__ (fun vs H Q E h => ?_) (fun cdv Ar outer s H vs Q E hr h => ?_)
  · obtain ⟨x, dx, tb, td, bs, ds, N, rfl, _⟩ := h
    rfl
  · obtain ⟨x, dx, tb, td, bs, ds, N, rfl, hx, hb, hd, gd, hN, nNx, k⟩ := h
    have hM : nx x N x := .inl rfl
    have kn0 : ∀ b, nx x N b → H b ≠ none := fun b z q => z.elim (fun e => by rw [e, hx] at q; cases q) fun e => hN b e q
    have hbw : SqT K (wn H (nx x N)) tb (bs.map V.int) := wn_tx hx hb
    have hdw : SqT K (wn H (nx x N)) td (ds.map V.int) := wn_tx hx hd
    obtain ⟨cr, u, cv⟩ := T.cv_Bakery_MAX_LIFE
    refine ⟨_, (pss_cons (ps_fld (pv 0) (pe_lc (own := [("life", 3)]) rfl sc_LifeObserver___init__.nd (pi_range2 (by rfl) T.b_range (pa_cons pe_int (pa_cons (pe_op op_add (ClX.pe_cval (pe_glob (v := .ref Z.c_Bakery) (by rfl) T.g_Bakery rfl) rfl) pe_int) pa_nil))) (blkOk_by (own := [("life", 3)]) (N := n_LifeObserver___init__) (sc := defScope s_LifeObserver___init__) (scope := { kind := PySem.ScopeKind.function, names := [ (PySem.Str.ofString ".0", PySem.NameKind.local), (PySem.Str.ofString "life", PySem.NameKind.local), (PySem.Str.ofString "Bakery", PySem.NameKind.globalImplicit), (PySem.Str.ofString "bakes", PySem.NameKind.free), (PySem.Str.ofString "demands", PySem.NameKind.free)], isGenerator := false, isCoroutine := false, more := [] : PySem.Scope }) (by decide +kernel)) (fun _ _ _ _ _ => (pg_name (i := 3) sc_LifeObserver___init__.nd rfl (Or.inl rfl))) (fun _ _ _ _ _ => pts_nil) (fun _ _ _ _ _ => (pe_make T.mk_Bakery (ok_Bakery___init__ T) (hr.mono (by decide)) (by rfl) T.g_Bakery T.b_Bakery___init__ .nil pass0 (pa_cons (pv 1) (pa_cons (pv 2) (pa_cons (pv 3) pa_nil)))))) rfl)
      (pss_one (ps_fld (pv 0) (pe_lst pa_nil) rfl))), ?_⟩
    refine q_selfR (Pr := fun p G => ∃ bl : List (Addr × Int), G p = some (.lst (bl.map fun x => V.ref x.1)) ∧ bl.map (·.2) = (List.range ((31 : Int) - 1).toNat).map (fun (k : Nat) => (1 : Int) + (k : Int)) ∧ ∀ x ∈ bl, ∃ i, BakAt K Z G x.1 bs ds x.2 i) hM kn0
      (er_lcO (lo := 1) (hi := 31) (Pr := fun l p G => ∃ i, BakAt K Z G p bs ds l i) (ea_cons ev_c (ea_cons (Ev.int_eq (ev_op (ev_cval ev_c cr cv) ev_c rv_I0) (by decide)) ea_nil)) ⟨by decide, by decide, by decide⟩ (fun _ => rfl) (fun _ _ _ _ e ⟨i, h⟩ => ⟨i, h.mono e⟩)
        (fun l H1 M' e1 eM h0 h1 => er_bakery (ea_cons (ev_var rfl) (ea_cons (ev_var rfl) (ea_cons (ev_var rfl) ea_nil))) (ex_t eM hbw) (ex_t eM hdw) gd h0 (by omega)))
      (fun _ _ => ev_var rfl) hx T.cl_LifeObserver T.na_LifeObserver__fitting (by decide) (fun p G1 G2 e ⟨bl, a, b, c⟩ => ⟨bl, e _ _ a, b, fun x hx => let ⟨i, y⟩ := c x hx; ⟨i, y.mono e⟩⟩) fun F S1 hF x1 g1 => ?_
    obtain ⟨bl, hF1, hl, hbk⟩ := hF
    refine s_fldN hM g1.kn (xs := []) (el_lst ea_nil (by show 0 ≤ 100000; decide)) (fun _ _ => ev_var rfl) x1 T.cl_LifeObserver T.na_LifeObserver__accepted (by show 1 < 1000; decide) fun A S2 nA hA x2 g2 => ?_
    have nAM : ¬ nx x N A := fun z => g1.kn A z nA
    have nAN : ¬ N A := fun z => nAM (.inr z)
    have sb : ∀ {S : Hp}, Ex (wn S (nx x N)) (wn S N) := wn_sub fun b z => .inr z
    have ex2 : Ex (wn S1 (nx x N)) (wn (wn S2 N) (oa x A)) := fun b o q => by
      obtain ⟨m, q1⟩ := wn_some q
      have q2 := g2.ex b o q
      rw [wn_ni fun z => z.elim (fun z => m (.inl z)) (fun z => by rw [z, nA] at q1; cases q1)]
      exact sb b o q2
    have lh : bl.length = 30 := by
      have z := congrArg List.length hl
      simpa using z
    refine k S2 F A bl ⟨⟨dx, (wn_ni nNx).trans x2⟩, T.cl_LifeObserver, T.na_LifeObserver__fitting, T.na_LifeObserver__accepted, sb _ _ (g2.ex _ _ hF1), (wn_ni nAN).trans hA, fun y hy => let ⟨i, z⟩ := hbk y hy; ⟨i, z.mono ex2⟩, (fun y hy => by cases hy), gd, by omega, by show 0 ≤ 1000; decide⟩ hl ?_ fun b o hbo hne => g2.al b o (g1.al b o hbo hne) hne
    cases z : H A with
    | none => rfl
    | some o =>
      have ne : A ≠ x := fun e => nAM (.inl e)
      rw [g1.al A o z ne] at nA; cases nA
/-! ### what it tells -/
def sp_Olives (K : PySem.W.Frag) (Z : Ad) : Sp := fun vs H Q _ => ∃ (o : Addr) (bs ds : List Int) (F A : Addr) (bl : List (Addr × Int)) (rl : List (Addr × Rec)), vs = [.ref o] ∧ ObsAt K Z H o bs ds F A bl rl ∧ RetU ((bl.map (·.2)).map V.int) H Q
theorem ok_LifeObserver_possible_lives (T : Txt K mg Z) : FnOk P w K mg base CX0 3 Z.f_LifeObserver_possible_lives Z.d_LifeObserver_possible_lives p_LifeObserver_possible_lives (sp_Olives K Z) := by
  refine T.F_LifeObserver_possible_lives.ok sc_LifeObserver_possible_lives (fun vs H Q E h => ?_) (fun cdv Ar outer s H vs Q E hr h => ?_)
  · obtain ⟨o, bs, ds, F, A, bl, rl, rfl, _⟩ := h
    rfl
  · obtain ⟨o, bs, ds, F, A, bl, rl, rfl, hO, k⟩ := h
    have fF := hO.fF
    refine ⟨_, (pss_one (ps_ret (pe_callTy (r := rTupS K) (call_tuple_of) (by rfl) T.b_tuple boot_tuple (pa_cons (pe_lc (own := [("bakery", 1)]) rfl sc_LifeObserver_possible_lives.nd (pi_listK K rfl (pe_fldK K rfl (pv 0) rfl)) (blkOk_by (own := [("bakery", 1)]) (N := n_LifeObserver_possible_lives) (sc := defScope s_LifeObserver_possible_lives) (scope := { kind := PySem.ScopeKind.function, names := [(PySem.Str.ofString ".0", PySem.NameKind.local), (PySem.Str.ofString "bakery", PySem.NameKind.local)], isGenerator := false, isCoroutine := false, more := [] : PySem.Scope }) (by decide +kernel)) (fun _ _ _ _ _ => (pg_name (i := 1) sc_LifeObserver_possible_lives.nd rfl (Or.inl rfl))) (fun _ _ _ _ _ => pts_nil) (fun _ _ _ _ _ => (pe_prop (pv 1) T.cl_Bakery T.pp_Bakery_life (ok_Bakery_life T) (hr.mono (by decide)) T.b_Bakery_life .nil pass0 rfl))) pa_nil)))), ?_⟩
    refine s_retU (eu_tupL (K := K) (el_eq (el_lcL (xs := bl.map fun x => V.ref x.1) (a := F) (fun _ => true) (fun i => V.int (bl.getD i (0, 0)).2) (by walk_at "ev") (sq_of hO.hF) (by rw [List.length_map]; have := hO.nb; omega) (fun _ => rfl) (fun _ _ _ _ _ => et_yes) fun i x G e hx _ => ?_) (by rw [List.length_map, given_map (d := ((0, 0) : Addr × Int)) (v := fun x => V.int x.2), List.map_map]; rfl))) fun p H1 np e1 h1 => k p H1 np e1 h1
    obtain ⟨rfl, _, hm⟩ := at_mapG (d := ((0, 0) : Addr × Int)) hx
    obtain ⟨j, hB⟩ := hO.bk hm
    exact ev_lifeP (ev_var rfl) (hB.mono e)
def sp_Orecs (K : PySem.W.Frag) (Z : Ad) : Sp := fun vs H Q _ => ∃ (o : Addr) (bs ds : List Int) (F A : Addr) (bl : List (Addr × Int)) (rl : List (Addr × Rec)), vs = [.ref o] ∧ ObsAt K Z H o bs ds F A bl rl ∧ ∀ p H', H p = none → Ex H H' → H' p = some (.lst (rl.map fun x => V.ref x.1)) → Q (.ref p) H'
theorem ok_LifeObserver_records (T : Txt K mg Z) : FnOk P w K mg base CX0 1 Z.f_LifeObserver_records Z.d_LifeObserver_records p_LifeObserver_records (sp_Orecs K Z) := by
  refine T.F_LifeObserver_records.ok sc_LifeObserver_records (fun vs H Q E h => ?_) (fun cdv Ar outer s H vs Q E hr h => ?_)
  · obtain ⟨o, bs, ds, F, A, bl, rl, rfl, _⟩ := h
    rfl
  · obtain ⟨o, bs, ds, F, A, bl, rl, rfl, hO, k⟩ := h
    have fA := hO.fA
    refine ⟨_, (pss_one (ps_ret (pe_callTy (r := rListS K) (call_list_of) (by rfl) T.b_list boot_list (pa_cons (pe_fldK K rfl (pv 0) rfl) pa_nil)))), ?_⟩
    exact s_retL (xs := rl.map fun x => V.ref x.1) (el_list (p := A) (by walk_at "ev") (sq_of hO.hA)) fun p H1 np e1 h1 => k p H1 np e1 h1
/-! ### what is seen -/
def agr (g : Int → Int) (num : Int) (bl : List (Addr × Int)) : List (Addr × Int) := bl.filter fun x => decide (g x.2 = num)
/-- the heap behind an observation -/
def SeenAt (K : PySem.W.Frag) (Z : Ad) (H : Hp) (o : Addr) (bs ds : List Int) (A : Addr) (bl : List (Addr × Int)) (rl : List (Addr × Rec)) (N : Addr → Prop) (rc : Rec) (H' : Hp) : Prop :=
  ∃ F' r, ObsAt K Z (wn H' N) o bs ds F' A bl (rl ++ [(r, rc)]) ∧ ∀ b u, H b = some u → b ≠ o → b ≠ A → H' b = some u
def sp_acc (K : PySem.W.Frag) (Z : Ad) : Sp := fun vs H Q _ => ∃ (o : Addr) (kind : Str) (day num : Int) (X : Addr) (g : Int → Int) (bs ds : List Int) (F A : Addr) (bl : List (Addr × Int)) (rl : List (Addr × Rec)) (N : Addr → Prop), vs = [.ref o, .str kind, .int day, .int num, .ref X] ∧
  ObsAt K Z (wn H N) o bs ds F A bl rl ∧ rl.length < 1000 ∧ SqL K H X ((bl.map fun x => g x.2).map V.int) ∧ (∀ b, N b → H b ≠ none) ∧ agr g num bl ≠ [] ∧ ∀ H', SeenAt K Z H o bs ds A (agr g num bl) rl N (kind, day, num) H' → Q (.int ((agr g num bl).length : Nat)) H'
theorem ok_LifeObserver__accept (T : Txt K mg Z) : FnOk P w K mg base CX0 1 Z.f_LifeObserver__accept Z.d_LifeObserver__accept p_LifeObserver__accept (sp_acc K Z) := by
  refine T.F_LifeObserver__accept.ok sc_LifeObserver__accept (fun vs H Q E h => ?_) (fun cdv Ar outer s H vs Q E hr h => ?_)
  · obtain ⟨o, kind, day, num, X, g, bs, ds, F, A, bl, rl, N, rfl, _⟩ := h
    rfl
  · obtain ⟨o, kind, day, num, X, g, bs, ds, F, A, bl, rl, N, rfl, hO, hr1, hX, hN, hne, k⟩ := h
    have hO' := hO.mono wn_ex
    have fF := hO'.fF
    have nb := hO.nb
    obtain ⟨dx, hi⟩ := hO'.inst
    have nNo : ¬ N o := (wn_some hO.inst.choose_spec).1
    have nNA : ¬ N A := (wn_some hO.hA).1
    have neA : o ≠ A := fun z => by have q := hO'.hA; rw [← z, hi] at q; cases q
    refine ⟨_, (pss_cons (ps_setLc (i := 5) (own := [("bakery", 6), ("one", 7)]) rfl sc_LifeObserver__accept.nd rfl rfl (sw_true rfl rfl rfl (by decide +kernel)) (pi_zipK K rfl (by rfl) T.b_zip (pa_cons (pe_fldK K rfl (pv 0) rfl) (pa_cons (pv 4) pa_nil))) (blkOk_by (own := [("bakery", 6), ("one", 7)]) (N := n_LifeObserver__accept) (sc := defScope s_LifeObserver__accept) (scope := { kind := PySem.ScopeKind.function, names := [ (PySem.Str.ofString ".0", PySem.NameKind.local), (PySem.Str.ofString "bakery", PySem.NameKind.local), (PySem.Str.ofString "one", PySem.NameKind.local), (PySem.Str.ofString "number", PySem.NameKind.free)], isGenerator := false, isCoroutine := false, more := [] : PySem.Scope }) (by decide +kernel)) (fun _ _ _ _ _ => (by exact (pg_tupK K (n := 2) rfl rfl (pgs_cons (pg_name (i := 6) sc_LifeObserver__accept.nd rfl (Or.inl rfl)) (pgs_cons (pg_name (i := 7) sc_LifeObserver__accept.nd rfl (Or.inl rfl)) pgs_nil))))) (fun _ _ _ _ _ => (pts_one (pt_cmpR op_eq (pv 7) (pv 3) (nomark _)))) (fun _ _ _ _ _ => (pv 6)))
      (pss_cons (ps_if (pt_cmpR op_eq (pe_callB (r := rLenS K) (call_len_seq) (by rfl) T.b_len boot_len (pa_cons (pv 5) pa_nil)) pe_int (nomark _)) (pss_one ps_no) pss_nil)
      (pss_cons (ps_fld (pv 0) (pv 5) rfl)
      (pss_cons (ps_expr (pe_bm PySem.F.plainAttrs_list PySem.F.slot_list_append PySem.F.type_list_append mt_append (pe_fldK K rfl (pv 0) rfl) (pa_cons (pe_tup (pa_cons (pv 1) (pa_cons (pv 2) (pa_cons (pv 3) pa_nil)))) pa_nil)))
      (pss_one (ps_ret (pe_callB (r := rLenS K) (call_len_seq) (by rfl) T.b_len boot_len (pa_cons (pv 5) pa_nil)))))))), ?_⟩
    refine q_asgL (xs := (agr g num bl).map fun x => V.ref x.1) (el_eq (el_lcZ (K := K) (a := F) (b := X) (xs := bl.map fun x => V.ref x.1) (ys := (bl.map fun x => g x.2).map V.int) (by decide) (ea_cons (by walk_at "ev") (ea_cons (ev_var rfl) ea_nil)) (sq_of hO'.hF) hX (by simp) (by rw [List.length_map]; omega) (fun i => decide (g (bl.getD i (0, 0)).2 = num)) (fun i => V.ref (bl.getD i (0, 0)).1) (fun i x y G e hx hy => ?_) (fun i x y G e hx hy _ => ?_)) (by rw [List.length_map]; exact given_gen (d := ((0, 0) : Addr × Int)) (f := fun x => decide (g x.2 = num)) (v := fun x => V.ref x.1))) fun p H1 np e1 h1 => ?_
    · obtain ⟨rfl, hlt, _⟩ := at_mapG (d := ((0, 0) : Addr × Int)) hx
      rw [List.map_map] at hy
      obtain ⟨rfl, _, _⟩ := at_mapG (d := ((0, 0) : Addr × Int)) hy
      exact et_is (et_test (ev_op (ev_var rfl) (ev_var rfl) (rv_eq rfl))) (by simp)
    · obtain ⟨rfl, hlt, _⟩ := at_mapG (d := ((0, 0) : Addr × Int)) hx
      exact ev_var rfl
    refine q_when (b := false) (et_is (et_test (ev_op (Ev.int_eq (ev_len (ev_var rfl) (sq_of h1)) (by rw [List.length_map])) ev_c (rv_eq rfl))) (by
      have : (agr g num bl).length ≠ 0 := fun z => hne (List.length_eq_zero_iff.mp z)
      simp; exact hne)) (fun hb => nomatch hb) fun _ H2 e2 => ?_
    have e12 := e1.trans e2
    have h2 := e2 _ _ h1
    have nepo : p ≠ o := fun z => by rw [z, hi] at np; cases np
    have nepA : p ≠ A := fun z => by rw [z, hO'.hA] at np; cases np
    have nNp : ¬ N p := fun z => hN p z np
    refine q_fld (v := .ref p) (ev_var rfl) (fun _ _ => ev_var rfl) (e12 _ _ hi) hO.cl hO.n1 (by show 2 < 1000; decide) fun H3 e3 => ?_
    have e13 := e12.trans e3
    have hi3 : upd H3 o (.ins Z.c_LifeObserver dx (putF "_fitting" (.ref p) [("_fitting", .ref F), ("_accepted", .ref A)])) o = some (.ins Z.c_LifeObserver dx [("_fitting", .ref p), ("_accepted", .ref A)]) := upd_same
    have al3 : ∀ b u, H b = some u → b ≠ o → upd H3 o (.ins Z.c_LifeObserver dx (putF "_fitting" (.ref p) [("_fitting", .ref F), ("_accepted", .ref A)])) b = some u := fun b u q ne => (upd_ne ne).trans (e13 _ _ q)
    have h3 : upd H3 o (.ins Z.c_LifeObserver dx (putF "_fitting" (.ref p) [("_fitting", .ref F), ("_accepted", .ref A)])) p = some (.lst ((agr g num bl).map fun x => V.ref x.1)) := (upd_ne nepo).trans (e3 _ _ h2)
    have fr3 : ∀ b, upd H3 o (.ins Z.c_LifeObserver dx (putF "_fitting" (.ref p) [("_fitting", .ref F), ("_accepted", .ref A)])) b = none → H b = none := fun b q => by
      cases z : H b with
      | none => rfl
      | some u =>
        by_cases c : b = o
        · rw [c, hi3] at q; cases q
        · rw [al3 b u z c] at q; cases q
    generalize upd H3 o (.ins Z.c_LifeObserver dx (putF "_fitting" (.ref p) [("_fitting", .ref F), ("_accepted", .ref A)])) = S3 at hi3 al3 h3 fr3 ⊢
    have hA3 := al3 _ _ hO'.hA neA.symm
    have fA3 : FlK K S3 o Z.c_LifeObserver "_accepted" (.ref A) := flk_of hi3 hO.cl hO.n2 rfl
    refine q_appU (ys := [.str kind, .int day, .int num]) hA3 (by walk_at "ev") (eu_tup (ea_cons (ev_var rfl) (ea_cons (ev_var rfl) (ea_cons (ev_var rfl) ea_nil))) (by show 3 ≤ 100000; decide)) (by rw [List.length_map]; omega) fun r H4 nr e4 h4 => ?_
    have nrA : r ≠ A := fun z => by rw [z, hA3] at nr; cases nr
    have nrH : H r = none := fr3 r nr
    have nNr : ¬ N r := fun z => hN r z nrH
    have h5p : upd H4 A (.lst ((rl.map fun x => V.ref x.1) ++ [.ref r])) p = some (.lst ((agr g num bl).map fun x => V.ref x.1)) := (upd_ne nepA).trans (e4 _ _ h3)
    refine s_ret (Ev.int_eq (ev_len (ev_var rfl) (sq_of h5p)) (by rw [List.length_map])) fun H6 e6 => k H6 ⟨p, r, ?_, fun b u q n1 n2 => e6 _ _ ((upd_ne n2).trans (e4 _ _ (al3 b u q n1)))⟩
    have keep : ∀ b u, S3 b = some u → b ≠ A → H6 b = some u := fun b u q n => e6 _ _ ((upd_ne n).trans (e4 _ _ q))
    refine ⟨⟨dx, (wn_ni nNo).trans (keep _ _ hi3 neA)⟩, hO.cl, hO.n1, hO.n2, (wn_ni nNp).trans (keep _ _ h3 nepA), (wn_ni nNA).trans (e6 _ _ (by rw [upd_same, List.map_append]; rfl)), fun x hx => ?_, fun x hx => ?_, hO.gd, ?_, ?_⟩
    · obtain ⟨i, hB⟩ := hO.bak x (List.mem_filter.mp hx).1
      refine ⟨i, hB.mono fun b u q => ?_⟩
      obtain ⟨m, q1⟩ := wn_some q
      obtain ⟨m2, q2⟩ := wn_some q1
      rw [wn_ni m, wn_ni m2]
      exact keep b u (al3 b u q2 fun z => m (.inl z)) fun z => m (.inr z)
    · rcases List.mem_append.mp hx with z | z
      · have q := hO.rc x z
        obtain ⟨m2, q2⟩ := wn_some q
        rw [wn_ni m2]
        exact keep _ _ (al3 _ _ q2 fun z => by rw [z, hi] at q2; cases q2) fun z => by rw [z, hO'.hA] at q2; cases q2
      · rw [List.mem_singleton.mp z]
        exact (wn_ni nNr).trans (e6 _ _ ((upd_ne nrA).trans h4))
    · have := List.length_filter_le (fun x : Addr × Int => decide (g x.2 = num)) bl
      unfold agr; omega
    · rw [List.length_append, List.length_singleton]; omega
/-- what does not fit -/
def sp_accX (K : PySem.W.Frag) (Z : Ad) : Sp := fun vs H _ E => ∃ (o : Addr) (kind : Str) (day num : Int) (X : Addr) (g : Int → Int) (bs ds : List Int) (F A : Addr) (bl : List (Addr × Int)) (rl : List (Addr × Rec)), vs = [.ref o, .str kind, .int day, .int num, .ref X] ∧
  ObsAt K Z H o bs ds F A bl rl ∧ SqL K H X ((bl.map fun x => g x.2).map V.int) ∧ agr g num bl = [] ∧ kind.length ≤ 10 ∧ day.natAbs < 10 ^ 30 ∧ num.natAbs < 10 ^ 30 ∧ ∀ H', Ex H H' → E (.ref Z.c_Contradiction) none H'
theorem okX_LifeObserver__accept (T : Txt K mg Z) (hP : P = Z.P) : FnOk P w K mg base (L2.CX P w) 1 Z.f_LifeObserver__accept Z.d_LifeObserver__accept p_LifeObserver__accept (sp_accX K Z) := by
  refine T.F_LifeObserver__accept.okX sc_LifeObserver__accept (fun vs H Q E h => ?_) (fun cdv Ar outer s H vs Q E hr h => ?_)
  · obtain ⟨o, kind, day, num, X, g, bs, ds, F, A, bl, rl, rfl, _⟩ := h
    rfl
  · obtain ⟨o, kind, day, num, X, g, bs, ds, F, A, bl, rl, rfl, hO, hX, hne, hk, hd, hn, k⟩ := h
    have fF := hO.fF
    have nb := hO.nb
    refine ⟨_, (pss_cons (ps_setLc (i := 5) (own := [("bakery", 6), ("one", 7)]) rfl sc_LifeObserver__accept.nd rfl rfl (sw_true rfl rfl rfl (by decide +kernel)) (pi_zipK K rfl (by rfl) T.b_zip (pa_cons (pe_fldK K rfl (pv 0) rfl) (pa_cons (pv 4) pa_nil))) (blkOk_by (own := [("bakery", 6), ("one", 7)]) (N := n_LifeObserver__accept) (sc := defScope s_LifeObserver__accept) (scope := { kind := PySem.ScopeKind.function, names := [ (PySem.Str.ofString ".0", PySem.NameKind.local), (PySem.Str.ofString "bakery", PySem.NameKind.local), (PySem.Str.ofString "one", PySem.NameKind.local), (PySem.Str.ofString "number", PySem.NameKind.free)], isGenerator := false, isCoroutine := false, more := [] : PySem.Scope }) (by decide +kernel)) (fun _ _ _ _ _ => (by exact (pg_tupK K (n := 2) rfl rfl (pgs_cons (pg_name (i := 6) sc_LifeObserver__accept.nd rfl (Or.inl rfl)) (pgs_cons (pg_name (i := 7) sc_LifeObserver__accept.nd rfl (Or.inl rfl)) pgs_nil))))) (fun _ _ _ _ _ => (pts_one (pt_cmpR op_eq (pv 7) (pv 3) (nomark _)))) (fun _ _ _ _ _ => (pv 6)))
      (pss_cons (ps_if (pt_cmpR op_eq (pe_callB (r := rLenS K) (call_len_seq) (by rfl) T.b_len boot_len (pa_cons (pv 5) pa_nil)) pe_int (nomark _)) (pss_one (ps_raise rfl (takes_of rfl rfl rfl rfl) (pmk_ownA PySem.F.excBase_ValueError T.xp_Contradiction T.g_Contradiction T.xq_Contradiction (raises_own T.xb_Contradiction T.xy_Contradiction) (by rfl) (pa_cons (pe_joined (.cons (pe_fmt (pv 3)) (.cons pe_str (.cons (pe_fmt (pv 1)) (.cons pe_str (.cons (pe_fmt (pv 2)) (.cons pe_str .nil))))))) pa_nil)))) pss_nil)
      (pss_cons (ps_fld (pv 0) (pv 5) rfl)
      (pss_cons (ps_expr (pe_bm PySem.F.plainAttrs_list PySem.F.slot_list_append PySem.F.type_list_append mt_append (pe_fldK K rfl (pv 0) rfl) (pa_cons (pe_tup (pa_cons (pv 1) (pa_cons (pv 2) (pa_cons (pv 3) pa_nil)))) pa_nil)))
      (pss_one (ps_ret (pe_callB (r := rLenS K) (call_len_seq) (by rfl) T.b_len boot_len (pa_cons (pv 5) pa_nil)))))))), ?_⟩
    refine q_asgL (xs := (agr g num bl).map fun x => V.ref x.1) (el_eq (el_lcZ (K := K) (a := F) (b := X) (xs := bl.map fun x => V.ref x.1) (ys := (bl.map fun x => g x.2).map V.int) (by decide) (ea_cons (by walk_at "ev") (ea_cons (ev_var rfl) ea_nil)) (sq_of hO.hF) hX (by simp) (by rw [List.length_map]; omega) (fun i => decide (g (bl.getD i (0, 0)).2 = num)) (fun i => V.ref (bl.getD i (0, 0)).1) (fun i x y G e hx hy => ?_) (fun i x y G e hx hy _ => ?_)) (by rw [List.length_map]; exact given_gen (d := ((0, 0) : Addr × Int)) (f := fun x => decide (g x.2 = num)) (v := fun x => V.ref x.1))) fun p H1 np e1 h1 => ?_
    · obtain ⟨rfl, hlt, _⟩ := at_mapG (d := ((0, 0) : Addr × Int)) hx
      rw [List.map_map] at hy
      obtain ⟨rfl, _, _⟩ := at_mapG (d := ((0, 0) : Addr × Int)) hy
      exact et_is (et_test (ev_op (ev_var rfl) (ev_var rfl) (rv_eq rfl))) (by simp)
    · obtain ⟨rfl, hlt, _⟩ := at_mapG (d := ((0, 0) : Addr × Int)) hx
      exact ev_var rfl
    rw [hne] at h1
    refine q_when (b := true) (et_is (et_test (ev_op (ev_len (ev_var rfl) (sq_of h1)) ev_c (rv_eq rfl))) (by rfl)) (fun _ H2 e2 => ?_) fun hb => nomatch hb
    have hz := sizeLine_eq
    have a1 := len_sm hn
    have a2 := len_sm hd
    have l0 : Str.empty.length = 0 := rfl
    have l1 : (Str.ofString " ").length = 1 := by decide +kernel
    have l2 : (Str.ofString " on day ").length = 8 := by decide +kernel
    have l3 : (Str.ofString " fits no possible life").length = 22 := by decide +kernel
    refine ⟨_, rfl, .inr ⟨num, rfl, log_sm hn, _, rfl, ?_, _, rfl, ?_, _, rfl, .inl ⟨kind, rfl, by omega, _, rfl, ?_, _, rfl, ?_, _, rfl, .inr ⟨day, rfl, log_sm hd, _, rfl, ?_, _, rfl, ?_, by show 1 ≤ sizeLine; omega, k _ (e1.trans e2)⟩⟩⟩⟩
    all_goals simp only [Str.length_append]; omega
theorem okM_LifeObserver__accept (T : Txt K mg Z) (hP : P = Z.P) : FnOk P w K mg base (L2.CX P w) 1 Z.f_LifeObserver__accept Z.d_LifeObserver__accept p_LifeObserver__accept (spOr (sp_acc K Z) (sp_accX K Z)) := fn_or (fn_lift (ok_LifeObserver__accept T)) (okX_LifeObserver__accept T hP)
end Sw
namespace Sw
open PySem PySem.Spec PyProof.Rows L2 Evl LamX NdefX
local macro_rules | `(tactic| walk_at "ev") => `(tactic| first
  | exact ev_c
  | exact ev_var rfl
  | ((with_reducible show Ev (tCB rMax2 _) _ _ _); exact ev_maxi (by walk_at "ev") (by walk_at "ev"))
  | ((with_reducible show Ev (tCB rMn _) _ _ _); exact ev_min2 (by walk_at "ev") (by walk_at "ev"))
  | ((with_reducible show Ev (tUn _ _) _ _ _); exact ev_un (by walk_at "ev") ru_neg)
  | ((with_reducible show Ev (tFld _ _ _) _ _ _); exact ev_fldK (by walk_at "ev") (by assumption))
  | ((with_reducible show Ev (tOp (rI0 _) _ _) _ _ _); exact ev_op (by walk_at "ev") (by walk_at "ev") rv_I0)
  | ((with_reducible show Ev (tOp rEq _ _) _ _ _); exact ev_op (by walk_at "ev") (by walk_at "ev") (rv_eq rfl))
  | ((with_reducible show Ev (tOp rNe _ _) _ _ _); exact ev_op (by walk_at "ev") (by walk_at "ev") (rv_ne rfl)))

/-! ### the three kinds -/
def gS (bs ds : List Int) (t : Nat) (l : Int) : Int := solS bs ds (keepL bs l) t
def gT (bs ds : List Int) (t : Nat) (l : Int) : Int := thrS bs ds (keepL bs l) t
def gD (bs ds : List Int) (t : Nat) (l : Int) : Int := dayS bs ds (keepL bs l) t
abbrev GK := List Int → List Int → Nat → Int → Int
section
variable {σ : L2.St} {H : Hp} {ta tb tc td : TE} {x y z : V} {xs : List V} {R : List V → Hp → Prop}
theorem ra_4L (ha : Ev ta σ H x) (hb : Ev tb σ H y) (hc : Ev tc σ H z) (hd : EvL td σ H xs) (k : ∀ p H1, Ex H H1 → H1 p = some (.lst xs) → R [x, y, z, .ref p] H1) : (tCons ta (tCons tb (tCons tc (tCons td tNil)))) σ H R :=
  ha H (Ex.refl _) _ fun H1 e1 => hb H1 e1 _ fun H2 e2 => hc H2 (e1.trans e2) _ fun H3 e3 => hd H3 ((e1.trans e2).trans e3) _ fun p H4 _ e4 h4 => k p H4 (((e1.trans e2).trans e3).trans e4) h4
end
variable {P : Program} {w : World} {K : PySem.W.Frag} {mg : Str → Option Value} {base : Heap} {Z : Ad}
def sp_see (K : PySem.W.Frag) (Z : Ad) (kind : Str) (g : GK) : Sp := fun vs H Q _ => ∃ (o : Addr) (day : Nat) (num : Int) (bs ds : List Int) (F A : Addr) (bl : List (Addr × Int)) (rl : List (Addr × Rec)) (N : Addr → Prop), vs = [.ref o, .int (day : Int), .int num] ∧ (day : Int) ≤ 1000000000000000000 ∧
  ObsAt K Z (wn H N) o bs ds F A bl rl ∧ rl.length < 1000 ∧ (∀ b, N b → H b ≠ none) ∧ agr (g bs ds day) num bl ≠ [] ∧ ∀ H', SeenAt K Z H o bs ds A (agr (g bs ds day) num bl) rl N (kind, (day : Int), num) H' → Q (.int ((agr (g bs ds day) num bl).length : Nat)) H'
def sp_seeX (K : PySem.W.Frag) (Z : Ad) (g : GK) : Sp := fun vs H _ E => ∃ (o : Addr) (day : Nat) (num : Int) (bs ds : List Int) (F A : Addr) (bl : List (Addr × Int)) (rl : List (Addr × Rec)), vs = [.ref o, .int (day : Int), .int num] ∧ (day : Int) ≤ 1000000000000000000 ∧
  ObsAt K Z H o bs ds F A bl rl ∧ agr (g bs ds day) num bl = [] ∧ num.natAbs < 10 ^ 30 ∧ ∀ H', Ex H H' → E (.ref Z.c_Contradiction) none H'
theorem SeenAt.from {H H1 H' : Hp} {o A : Addr} {bs ds : List Int} {bl : List (Addr × Int)} {rl : List (Addr × Rec)} {N : Addr → Prop} {rc : Rec} (e : Ex H H1) (h : SeenAt K Z H1 o bs ds A bl rl N rc H') : SeenAt K Z H o bs ds A bl rl N rc H' :=
  let ⟨F', r, a, b⟩ := h; ⟨F', r, a, fun x u q => b x u (e x u q)⟩
/-- what is expected of each bakery -/
theorem el_exp {σ : L2.St} {H : Hp} {to : TE} {t : TA} {j : Nat} {vs : List Nat} {o F A : Addr} {bs ds : List Int} {bl : List (Addr × Int)} {rl : List (Addr × Rec)} {m : Str} {sp : Sp} {E : XK} {day : Nat} {g : Int → Int} (ho : Ev to σ H (.ref o)) (hO : ObsAt K Z H o bs ds F A bl rl)
    (hw : ∀ x, wipe ((wipe σ vs).set j (some x)) vs = wipe σ vs) (hm : m ∈ bakMeths) (hsl : ∀ x, ((wipe σ vs).set j (some x))[j]? = some (some x)) (ht : ∀ (x : V) G, EvA t ((wipe σ vs).set j (some x)) G [.int (day : Int)]) (hs : ∀ b l i G, BakAt K Z G b bs ds l i → SpV sp [.ref b, .int (day : Int)] G (.int (g l))) :
    EvL (tLc (iList K (tFld K to "_fitting")) (gName j) tYes (tMeth Z.c_Bakery m sp [] E (tVar j) t) vs) σ H ((bl.map fun x => g x.2).map V.int) := by
  refine el_eq (el_lcL (xs := bl.map fun x => V.ref x.1) (a := F) (fun _ => true) (fun i => V.int (g (bl.getD i (0, 0)).2)) (ev_fldK ho hO.fF) (sq_of hO.hF) (by rw [List.length_map]; have := hO.nb; omega) hw (fun _ _ _ _ _ => et_yes) fun i x G e hx _ => ?_) (by rw [List.length_map, given_map (d := ((0, 0) : Addr × Int)) (v := fun x => V.int (g x.2)), List.map_map]; rfl)
  obtain ⟨rfl, _, hmem⟩ := at_mapG (d := ((0, 0) : Addr × Int)) hx
  obtain ⟨i', hB⟩ := hO.bk hmem
  have hB := hB.mono e
  exact ev_meth (ev_var (hsl _)) (hB.nf _ hm) (ht _ _) (hs _ _ _ _ hB)
theorem ok_LifeObserver_see_sold (T : Txt K mg Z) : FnOk P w K mg base CX0 5 Z.f_LifeObserver_see_sold Z.d_LifeObserver_see_sold p_LifeObserver_see_sold (sp_see K Z "sold" gS) := by
  refine T.F_LifeObserver_see_sold.ok sc_LifeObserver_see_sold (fun vs H Q E h => ?_) (fun cdv Ar outer s H vs Q E hr h => ?_)
  · obtain ⟨o, day, num, bs, ds, F, A, bl, rl, N, rfl, _⟩ := h
    rfl
  · obtain ⟨o, day, num, bs, ds, F, A, bl, rl, N, rfl, hd, hO, hr1, hN, hne, k⟩ := h
    have hO' := hO.mono wn_ex
    refine ⟨_, (pss_one (ps_ret (pe_meth (pv 0) T.cl_LifeObserver T.m_LifeObserver__accept (ok_LifeObserver__accept T) (hr.mono (by decide)) T.b_LifeObserver__accept .nil pass0 (pa_cons pe_str (pa_cons (pv 1) (pa_cons (pv 2) (pa_cons (pe_lc (own := [("bakery", 3)]) rfl sc_LifeObserver_see_sold.nd (pi_listK K rfl (pe_fldK K rfl (pv 0) rfl)) (blkOk_by (own := [("bakery", 3)]) (N := n_LifeObserver_see_sold) (sc := defScope s_LifeObserver_see_sold) (scope := { kind := PySem.ScopeKind.function, names := [ (PySem.Str.ofString ".0", PySem.NameKind.local), (PySem.Str.ofString "bakery", PySem.NameKind.local), (PySem.Str.ofString "day", PySem.NameKind.free)], isGenerator := false, isCoroutine := false, more := [] : PySem.Scope }) (by decide +kernel)) (fun _ _ _ _ _ => (pg_name (i := 3) sc_LifeObserver_see_sold.nd rfl (Or.inl rfl))) (fun _ _ _ _ _ => pts_nil) (fun _ _ _ _ _ => (pe_meth (pv 3) T.cl_Bakery T.m_Bakery_sold (ok_Bakery_sold T) (hr.mono (by decide)) T.b_Bakery_sold .nil pass0 (pa_cons (pv 1) pa_nil)))) pa_nil))))))), ?_⟩
    refine r_meth (ev_var rfl) (hO'.nf (by decide)) fun H1 e1 => ra_4L (ev_c) (ev_var rfl) (ev_var rfl) (el_exp (day := day) (g := gS bs ds day) (ev_var rfl) (hO'.mono e1) (fun _ => rfl) (by decide) (fun _ => rfl) (fun _ _ => ea_cons (ev_var rfl) ea_nil) (fun b l i G hB => spv_Bday (j := 0) hB hd)) fun p H2 e2 h2 => ?_
    exact ⟨o, "sold", day, num, p, gS bs ds day, bs, ds, F, A, bl, rl, N, rfl, hO.mono (wn_mono (e1.trans e2)), hr1, sq_of h2, fun b hb z => hN b hb (fresh_back (e1.trans e2) z), hne, fun H' hs => k H' (hs.from (e1.trans e2))⟩
theorem ok_LifeObserver_see_thrown (T : Txt K mg Z) : FnOk P w K mg base CX0 5 Z.f_LifeObserver_see_thrown Z.d_LifeObserver_see_thrown p_LifeObserver_see_thrown (sp_see K Z "thrown" gT) := by
  refine T.F_LifeObserver_see_thrown.ok sc_LifeObserver_see_thrown (fun vs H Q E h => ?_) (fun cdv Ar outer s H vs Q E hr h => ?_)
  · obtain ⟨o, day, num, bs, ds, F, A, bl, rl, N, rfl, _⟩ := h
    rfl
  · obtain ⟨o, day, num, bs, ds, F, A, bl, rl, N, rfl, hd, hO, hr1, hN, hne, k⟩ := h
    have hO' := hO.mono wn_ex
    refine ⟨_, (pss_one (ps_ret (pe_meth (pv 0) T.cl_LifeObserver T.m_LifeObserver__accept (ok_LifeObserver__accept T) (hr.mono (by decide)) T.b_LifeObserver__accept .nil pass0 (pa_cons pe_str (pa_cons (pv 1) (pa_cons (pv 2) (pa_cons (pe_lc (own := [("bakery", 3)]) rfl sc_LifeObserver_see_thrown.nd (pi_listK K rfl (pe_fldK K rfl (pv 0) rfl)) (blkOk_by (own := [("bakery", 3)]) (N := n_LifeObserver_see_thrown) (sc := defScope s_LifeObserver_see_thrown) (scope := { kind := PySem.ScopeKind.function, names := [ (PySem.Str.ofString ".0", PySem.NameKind.local), (PySem.Str.ofString "bakery", PySem.NameKind.local), (PySem.Str.ofString "day", PySem.NameKind.free)], isGenerator := false, isCoroutine := false, more := [] : PySem.Scope }) (by decide +kernel)) (fun _ _ _ _ _ => (pg_name (i := 3) sc_LifeObserver_see_thrown.nd rfl (Or.inl rfl))) (fun _ _ _ _ _ => pts_nil) (fun _ _ _ _ _ => (pe_meth (pv 3) T.cl_Bakery T.m_Bakery_thrown (ok_Bakery_thrown T) (hr.mono (by decide)) T.b_Bakery_thrown .nil pass0 (pa_cons (pv 1) pa_nil)))) pa_nil))))))), ?_⟩
    refine r_meth (ev_var rfl) (hO'.nf (by decide)) fun H1 e1 => ra_4L (ev_c) (ev_var rfl) (ev_var rfl) (el_exp (day := day) (g := gT bs ds day) (ev_var rfl) (hO'.mono e1) (fun _ => rfl) (by decide) (fun _ => rfl) (fun _ _ => ea_cons (ev_var rfl) ea_nil) (fun b l i G hB => spv_Bday (j := 2) hB hd)) fun p H2 e2 h2 => ?_
    exact ⟨o, "thrown", day, num, p, gT bs ds day, bs, ds, F, A, bl, rl, N, rfl, hO.mono (wn_mono (e1.trans e2)), hr1, sq_of h2, fun b hb z => hN b hb (fresh_back (e1.trans e2) z), hne, fun H' hs => k H' (hs.from (e1.trans e2))⟩
theorem ok_LifeObserver_see_stock (T : Txt K mg Z) : FnOk P w K mg base CX0 5 Z.f_LifeObserver_see_stock Z.d_LifeObserver_see_stock p_LifeObserver_see_stock (sp_see K Z "stock" gD) := by
  refine T.F_LifeObserver_see_stock.ok sc_LifeObserver_see_stock (fun vs H Q E h => ?_) (fun cdv Ar outer s H vs Q E hr h => ?_)
  · obtain ⟨o, day, num, bs, ds, F, A, bl, rl, N, rfl, _⟩ := h
    rfl
  · obtain ⟨o, day, num, bs, ds, F, A, bl, rl, N, rfl, hd, hO, hr1, hN, hne, k⟩ := h
    have hO' := hO.mono wn_ex
    refine ⟨_, (pss_one (ps_ret (pe_meth (pv 0) T.cl_LifeObserver T.m_LifeObserver__accept (ok_LifeObserver__accept T) (hr.mono (by decide)) T.b_LifeObserver__accept .nil pass0 (pa_cons pe_str (pa_cons (pv 1) (pa_cons (pv 2) (pa_cons (pe_lc (own := [("bakery", 3)]) rfl sc_LifeObserver_see_stock.nd (pi_listK K rfl (pe_fldK K rfl (pv 0) rfl)) (blkOk_by (own := [("bakery", 3)]) (N := n_LifeObserver_see_stock) (sc := defScope s_LifeObserver_see_stock) (scope := { kind := PySem.ScopeKind.function, names := [ (PySem.Str.ofString ".0", PySem.NameKind.local), (PySem.Str.ofString "bakery", PySem.NameKind.local), (PySem.Str.ofString "day", PySem.NameKind.free)], isGenerator := false, isCoroutine := false, more := [] : PySem.Scope }) (by decide +kernel)) (fun _ _ _ _ _ => (pg_name (i := 3) sc_LifeObserver_see_stock.nd rfl (Or.inl rfl))) (fun _ _ _ _ _ => pts_nil) (fun _ _ _ _ _ => (pe_meth (pv 3) T.cl_Bakery T.m_Bakery_stock (ok_Bakery_stock T) (hr.mono (by decide)) T.b_Bakery_stock .nil pass0 (pa_cons (pv 1) pa_nil)))) pa_nil))))))), ?_⟩
    refine r_meth (ev_var rfl) (hO'.nf (by decide)) fun H1 e1 => ra_4L (ev_c) (ev_var rfl) (ev_var rfl) (el_exp (day := day) (g := gD bs ds day) (ev_var rfl) (hO'.mono e1) (fun _ => rfl) (by decide) (fun _ => rfl) (fun _ _ => ea_cons (ev_var rfl) ea_nil) (fun b l i G hB => spv_Bstock hB hd)) fun p H2 e2 h2 => ?_
    exact ⟨o, "stock", day, num, p, gD bs ds day, bs, ds, F, A, bl, rl, N, rfl, hO.mono (wn_mono (e1.trans e2)), hr1, sq_of h2, fun b hb z => hN b hb (fresh_back (e1.trans e2) z), hne, fun H' hs => k H' (hs.from (e1.trans e2))⟩
/-! ### what contradicts -/
theorem okX_LifeObserver_see_sold (T : Txt K mg Z) (hP : P = Z.P) : FnOk P w K mg base (L2.CX P w) 5 Z.f_LifeObserver_see_sold Z.d_LifeObserver_see_sold p_LifeObserver_see_sold (sp_seeX K Z gS) := by
  refine T.F_LifeObserver_see_sold.okX sc_LifeObserver_see_sold (fun vs H Q E h => ?_) (fun cdv Ar outer s H vs Q E hr h => ?_)
  · obtain ⟨o, day, num, bs, ds, F, A, bl, rl, rfl, _⟩ := h
    rfl
  · obtain ⟨o, day, num, bs, ds, F, A, bl, rl, rfl, hd, hO, hne, hn, k⟩ := h
    refine ⟨_, (pss_one (ps_ret (pe_meth (pv 0) T.cl_LifeObserver T.m_LifeObserver__accept (okM_LifeObserver__accept T hP) (hr.mono (by decide)) T.b_LifeObserver__accept .nil (passes_call (takes_of rfl rfl rfl rfl) (fun _ _ _ _ h => h)) (pa_cons pe_str (pa_cons (pv 1) (pa_cons (pv 2) (pa_cons (pe_lc (own := [("bakery", 3)]) rfl sc_LifeObserver_see_sold.nd (pi_listK K rfl (pe_fldK K rfl (pv 0) rfl)) (blkOk_by (own := [("bakery", 3)]) (N := n_LifeObserver_see_sold) (sc := defScope s_LifeObserver_see_sold) (scope := { kind := PySem.ScopeKind.function, names := [ (PySem.Str.ofString ".0", PySem.NameKind.local), (PySem.Str.ofString "bakery", PySem.NameKind.local), (PySem.Str.ofString "day", PySem.NameKind.free)], isGenerator := false, isCoroutine := false, more := [] : PySem.Scope }) (by decide +kernel)) (fun _ _ _ _ _ => (pg_name (i := 3) sc_LifeObserver_see_sold.nd rfl (Or.inl rfl))) (fun _ _ _ _ _ => pts_nil) (fun _ _ _ _ _ => (pe_meth (pv 3) T.cl_Bakery T.m_Bakery_sold (ok_Bakery_sold T) (hr.mono (by decide)) T.b_Bakery_sold .nil pass0 (pa_cons (pv 1) pa_nil)))) pa_nil))))))), ?_⟩
    refine r_meth (ev_var rfl) (hO.nf (by decide)) fun H1 e1 => ra_4L (ev_c) (ev_var rfl) (ev_var rfl) (el_exp (day := day) (g := gS bs ds day) (ev_var rfl) (hO.mono e1) (fun _ => rfl) (by decide) (fun _ => rfl) (fun _ _ => ea_cons (ev_var rfl) ea_nil) (fun b l i G hB => spv_Bday (j := 0) hB hd)) fun p H2 e2 h2 => ?_
    exact .inr ⟨o, "sold", day, num, p, gS bs ds day, bs, ds, F, A, bl, rl, rfl, hO.mono (e1.trans e2), sq_of h2, hne, by decide +kernel, by omega, hn, fun H' e => k H' ((e1.trans e2).trans e)⟩
theorem okX_LifeObserver_see_thrown (T : Txt K mg Z) (hP : P = Z.P) : FnOk P w K mg base (L2.CX P w) 5 Z.f_LifeObserver_see_thrown Z.d_LifeObserver_see_thrown p_LifeObserver_see_thrown (sp_seeX K Z gT) := by
  refine T.F_LifeObserver_see_thrown.okX sc_LifeObserver_see_thrown (fun vs H Q E h => ?_) (fun cdv Ar outer s H vs Q E hr h => ?_)
  · obtain ⟨o, day, num, bs, ds, F, A, bl, rl, rfl, _⟩ := h
    rfl
  · obtain ⟨o, day, num, bs, ds, F, A, bl, rl, rfl, hd, hO, hne, hn, k⟩ := h
    refine ⟨_, (pss_one (ps_ret (pe_meth (pv 0) T.cl_LifeObserver T.m_LifeObserver__accept (okM_LifeObserver__accept T hP) (hr.mono (by decide)) T.b_LifeObserver__accept .nil (passes_call (takes_of rfl rfl rfl rfl) (fun _ _ _ _ h => h)) (pa_cons pe_str (pa_cons (pv 1) (pa_cons (pv 2) (pa_cons (pe_lc (own := [("bakery", 3)]) rfl sc_LifeObserver_see_thrown.nd (pi_listK K rfl (pe_fldK K rfl (pv 0) rfl)) (blkOk_by (own := [("bakery", 3)]) (N := n_LifeObserver_see_thrown) (sc := defScope s_LifeObserver_see_thrown) (scope := { kind := PySem.ScopeKind.function, names := [ (PySem.Str.ofString ".0", PySem.NameKind.local), (PySem.Str.ofString "bakery", PySem.NameKind.local), (PySem.Str.ofString "day", PySem.NameKind.free)], isGenerator := false, isCoroutine := false, more := [] : PySem.Scope }) (by decide +kernel)) (fun _ _ _ _ _ => (pg_name (i := 3) sc_LifeObserver_see_thrown.nd rfl (Or.inl rfl))) (fun _ _ _ _ _ => pts_nil) (fun _ _ _ _ _ => (pe_meth (pv 3) T.cl_Bakery T.m_Bakery_thrown (ok_Bakery_thrown T) (hr.mono (by decide)) T.b_Bakery_thrown .nil pass0 (pa_cons (pv 1) pa_nil)))) pa_nil))))))), ?_⟩
    refine r_meth (ev_var rfl) (hO.nf (by decide)) fun H1 e1 => ra_4L (ev_c) (ev_var rfl) (ev_var rfl) (el_exp (day := day) (g := gT bs ds day) (ev_var rfl) (hO.mono e1) (fun _ => rfl) (by decide) (fun _ => rfl) (fun _ _ => ea_cons (ev_var rfl) ea_nil) (fun b l i G hB => spv_Bday (j := 2) hB hd)) fun p H2 e2 h2 => ?_
    exact .inr ⟨o, "thrown", day, num, p, gT bs ds day, bs, ds, F, A, bl, rl, rfl, hO.mono (e1.trans e2), sq_of h2, hne, by decide +kernel, by omega, hn, fun H' e => k H' ((e1.trans e2).trans e)⟩
theorem okX_LifeObserver_see_stock (T : Txt K mg Z) (hP : P = Z.P) : FnOk P w K mg base (L2.CX P w) 5 Z.f_LifeObserver_see_stock Z.d_LifeObserver_see_stock p_LifeObserver_see_stock (sp_seeX K Z gD) := by
  refine T.F_LifeObserver_see_stock.okX sc_LifeObserver_see_stock (fun vs H Q E h => ?_) (fun cdv Ar outer s H vs Q E hr h => ?_)
  · obtain ⟨o, day, num, bs, ds, F, A, bl, rl, rfl, _⟩ := h
    rfl
  · obtain ⟨o, day, num, bs, ds, F, A, bl, rl, rfl, hd, hO, hne, hn, k⟩ := h
    refine ⟨_, (pss_one (ps_ret (pe_meth (pv 0) T.cl_LifeObserver T.m_LifeObserver__accept (okM_LifeObserver__accept T hP) (hr.mono (by decide)) T.b_LifeObserver__accept .nil (passes_call (takes_of rfl rfl rfl rfl) (fun _ _ _ _ h => h)) (pa_cons pe_str (pa_cons (pv 1) (pa_cons (pv 2) (pa_cons (pe_lc (own := [("bakery", 3)]) rfl sc_LifeObserver_see_stock.nd (pi_listK K rfl (pe_fldK K rfl (pv 0) rfl)) (blkOk_by (own := [("bakery", 3)]) (N := n_LifeObserver_see_stock) (sc := defScope s_LifeObserver_see_stock) (scope := { kind := PySem.ScopeKind.function, names := [ (PySem.Str.ofString ".0", PySem.NameKind.local), (PySem.Str.ofString "bakery", PySem.NameKind.local), (PySem.Str.ofString "day", PySem.NameKind.free)], isGenerator := false, isCoroutine := false, more := [] : PySem.Scope }) (by decide +kernel)) (fun _ _ _ _ _ => (pg_name (i := 3) sc_LifeObserver_see_stock.nd rfl (Or.inl rfl))) (fun _ _ _ _ _ => pts_nil) (fun _ _ _ _ _ => (pe_meth (pv 3) T.cl_Bakery T.m_Bakery_stock (ok_Bakery_stock T) (hr.mono (by decide)) T.b_Bakery_stock .nil pass0 (pa_cons (pv 1) pa_nil)))) pa_nil))))))), ?_⟩
    refine r_meth (ev_var rfl) (hO.nf (by decide)) fun H1 e1 => ra_4L (ev_c) (ev_var rfl) (ev_var rfl) (el_exp (day := day) (g := gD bs ds day) (ev_var rfl) (hO.mono e1) (fun _ => rfl) (by decide) (fun _ => rfl) (fun _ _ => ea_cons (ev_var rfl) ea_nil) (fun b l i G hB => spv_Bstock hB hd)) fun p H2 e2 h2 => ?_
    exact .inr ⟨o, "stock", day, num, p, gD bs ds day, bs, ds, F, A, bl, rl, rfl, hO.mono (e1.trans e2), sq_of h2, hne, by decide +kernel, by omega, hn, fun H' e => k H' ((e1.trans e2).trans e)⟩
theorem okM_LifeObserver_see_sold (T : Txt K mg Z) (hP : P = Z.P) : FnOk P w K mg base (L2.CX P w) 5 Z.f_LifeObserver_see_sold Z.d_LifeObserver_see_sold p_LifeObserver_see_sold (spOr (sp_see K Z "sold" gS) (sp_seeX K Z gS)) := fn_or (fn_lift (ok_LifeObserver_see_sold T)) (okX_LifeObserver_see_sold T hP)
theorem okM_LifeObserver_see_thrown (T : Txt K mg Z) (hP : P = Z.P) : FnOk P w K mg base (L2.CX P w) 5 Z.f_LifeObserver_see_thrown Z.d_LifeObserver_see_thrown p_LifeObserver_see_thrown (spOr (sp_see K Z "thrown" gT) (sp_seeX K Z gT)) := fn_or (fn_lift (ok_LifeObserver_see_thrown T)) (okX_LifeObserver_see_thrown T hP)
theorem okM_LifeObserver_see_stock (T : Txt K mg Z) (hP : P = Z.P) : FnOk P w K mg base (L2.CX P w) 5 Z.f_LifeObserver_see_stock Z.d_LifeObserver_see_stock p_LifeObserver_see_stock (spOr (sp_see K Z "stock" gD) (sp_seeX K Z gD)) := fn_or (fn_lift (ok_LifeObserver_see_stock T)) (okX_LifeObserver_see_stock T hP)
/-! ### the telling day -/
def TellV (bs ds L : List Int) (v : V) : Prop :=
  (∃ d : Nat, v = .int (d : Int) ∧ d < 2 * bs.length ∧ (∃ x ∈ L, ∃ y ∈ L, gS bs ds d x ≠ gS bs ds d y) ∧ ∀ t, t < d → ∀ x ∈ L, ∀ y ∈ L, gS bs ds t x = gS bs ds t y) ∨
  (v = .non ∧ ∀ t, t < 2 * bs.length → ∀ x ∈ L, ∀ y ∈ L, gS bs ds t x = gS bs ds t y)
def sp_tell (K : PySem.W.Frag) (Z : Ad) : Sp := fun vs H Q _ => ∃ (o : Addr) (bs ds : List Int) (F A : Addr) (bl : List (Addr × Int)) (rl : List (Addr × Rec)), vs = [.ref o] ∧ ObsAt K Z H o bs ds F A bl rl ∧ bl ≠ [] ∧ ∀ v, TellV bs ds (bl.map (·.2)) v → RetV v H Q
theorem ok_LifeObserver_telling_day (T : Txt K mg Z) : FnOk P w K mg base CX0 5 Z.f_LifeObserver_telling_day Z.d_LifeObserver_telling_day p_LifeObserver_telling_day (sp_tell K Z) := by
  refine T.F_LifeObserver_telling_day.ok sc_LifeObserver_telling_day (fun vs H Q E h => ?_) (fun cdv Ar outer s H vs Q E hr h => ?_)
  · obtain ⟨o, bs, ds, F, A, bl, rl, rfl, _⟩ := h
    rfl
  · obtain ⟨o, bs, ds, F, A, bl, rl, rfl, hO, hne, k⟩ := h
    have gd := hO.gd
    have n1 := gd.n1
    have fF := hO.fF
    obtain ⟨b0, r0, rfl⟩ : ∃ b0 r0, bl = b0 :: r0 := by
      cases bl with
      | nil => exact absurd rfl hne
      | cons a r => exact ⟨a, r, rfl⟩
    obtain ⟨i0, hB0⟩ := hO.bk (x := b0) (by simp)
    refine ⟨_, (pss_cons (ps_for PassesOwn.never rfl (pi_range1 (by rfl) T.b_range (pa_cons (pe_op op_mul pe_int (pe_callB (r := rLenS K) (call_len_seq) (by rfl) T.b_len boot_len (pa_cons (pe_prop (pe_ix (r := rIxL K) ix_list (pe_fldK K rfl (pv 0) rfl) pe_int (fun _ _ => rfl)) T.cl_Bakery T.pp_Bakery_bakes (ok_Bakery_bakes T) (hr.mono (by decide)) T.b_Bakery_bakes .nil pass0 rfl) pa_nil))) pa_nil)) (pg_name (i := 1) sc_LifeObserver_telling_day.nd rfl (Or.inr rfl)) (pss_cons (ps_setLc (i := 2) (own := [("bakery", 3)]) rfl sc_LifeObserver_telling_day.nd rfl rfl (sw_true rfl rfl rfl (by decide +kernel)) (pi_listK K rfl (pe_fldK K rfl (pv 0) rfl)) (blkOk_by (own := [("bakery", 3)]) (N := n_LifeObserver_telling_day) (sc := defScope s_LifeObserver_telling_day) (scope := { kind := PySem.ScopeKind.function, names := [ (PySem.Str.ofString ".0", PySem.NameKind.local), (PySem.Str.ofString "bakery", PySem.NameKind.local), (PySem.Str.ofString "day", PySem.NameKind.free)], isGenerator := false, isCoroutine := false, more := [] : PySem.Scope }) (by decide +kernel)) (fun _ _ _ _ _ => (pg_name (i := 3) sc_LifeObserver_telling_day.nd rfl (Or.inl rfl))) (fun _ _ _ _ _ => pts_nil) (fun _ _ _ _ _ => (pe_meth (pv 3) T.cl_Bakery T.m_Bakery_sold (ok_Bakery_sold T) (hr.mono (by decide)) T.b_Bakery_sold .nil pass0 (pa_cons (pv 1) pa_nil))))
      (pss_one (ps_if (pt_cmpR op_lt (pe_callB (r := rMinLi K) (cr_minLi rfl) (by rfl) T.b_min boot_min (pa_cons (pv 2) pa_nil)) (pe_callB (r := rMaxLi K) (cr_maxLi rfl) (by rfl) T.b_max boot_max (pa_cons (pv 2) pa_nil)) (nomark _)) (pss_one (ps_ret (pv 1))) pss_nil))))
      (pss_one (ps_ret pe_non))), ?_⟩
    refine q_forR1 (n := 2 * (bs.length : Int)) (ea_cons (ev_op ev_c (Ev.int_eq (j := (bs.length : Int)) (ev_lenW (ew_bks (ev_ixL (K := K) (by walk_at "ev") (sq_of hO.hF) ev_c (atI_nat (j := 0) rfl)) hB0)) (by rw [List.length_map])) (rv_I (wide_ok (by omega)))) ea_nil) ⟨by omega, by omega⟩ (fun t σ' H' => (∃ x1 x2 x3, σ' = [some (.ref o), x1, x2, x3]) ∧ Ex H H' ∧ ∀ u, u < t → ∀ x ∈ (b0 :: r0).map (·.2), ∀ y ∈ (b0 :: r0).map (·.2), gS bs ds u x = gS bs ds u y)
      (fun H2 e2 => ⟨⟨_, _, _, rfl⟩, e2, fun u hu => absurd hu (Nat.not_lt_zero _)⟩) ?_ ?_
    · rintro t σ' G ht ⟨⟨_, _, _, rfl⟩, eG, hall⟩
      have ht1 : t < 2 * bs.length := by omega
      have hd : (t : Int) ≤ 1000000000000000000 := by omega
      have hO1 := hO.mono eG
      refine q_asgL (xs := ((b0 :: r0).map fun x => gS bs ds t x.2).map V.int) ?_ fun p G1 np g1 h1 => ?_
      · refine el_exp (bl := b0 :: r0) (day := t) (g := gS bs ds t) (o := o) (F := F) (A := A) (rl := rl) (bs := bs) (ds := ds) ?_ ?_ ?_ ?_ ?_ ?_ ?_
        · exact ev_var rfl
        · exact hO1
        · exact fun _ => rfl
        · decide
        · exact fun _ => rfl
        · exact fun _ _ => ea_cons (ev_var rfl) ea_nil
        · exact fun b l i G hB => spv_Bday (j := 0) hB hd
      obtain ⟨bot, m1, m2⟩ := ex_bot (xs := (b0 :: r0).map fun x => gS bs ds t x.2) (by simp)
      obtain ⟨top, m3, m4⟩ := ex_top (xs := (b0 :: r0).map fun x => gS bs ds t x.2) (by simp)
      refine s_when (b := decide (bot < top)) (et_test (ev_op (ev_minLi (ev_var rfl) (sq_of h1) m1 m2) (ev_maxLi (ev_var rfl) (sq_of h1) m3 m4) rv_I0)) (fun hb G2 g2 => ?_) (fun hb G2 g2 => ?_)
      · have hlt : bot < top := by simpa using hb
        refine s_ret (ev_var rfl) fun G3 g3 => k _ (.inl ⟨t, rfl, ht1, ?_, hall⟩) G3 (((eG.trans g1).trans g2).trans g3)
        obtain ⟨x, hx, ex⟩ := List.mem_map.mp m1
        obtain ⟨y, hy, ey⟩ := List.mem_map.mp m3
        exact ⟨x.2, List.mem_map.mpr ⟨x, hx, rfl⟩, y.2, List.mem_map.mpr ⟨y, hy, rfl⟩, by rw [ex, ey]; omega⟩
      · have hge : ¬ bot < top := by simpa using hb
        refine ⟨⟨_, _, _, rfl⟩, (eG.trans g1).trans g2, fun u hu x hx y hy => ?_⟩
        by_cases z : u < t
        · exact hall u z x hx y hy
        · have e : u = t := by omega
          subst e
          obtain ⟨x', hx', rfl⟩ := List.mem_map.mp hx
          obtain ⟨y', hy', rfl⟩ := List.mem_map.mp hy
          have a1 := m2 _ (List.mem_map.mpr ⟨x', hx', rfl⟩)
          have a2 := m4 _ (List.mem_map.mpr ⟨x', hx', rfl⟩)
          have a3 := m2 _ (List.mem_map.mpr ⟨y', hy', rfl⟩)
          have a4 := m4 _ (List.mem_map.mpr ⟨y', hy', rfl⟩)
          omega
    · rintro σ' G ⟨⟨_, _, _, rfl⟩, eG, hall⟩
      have en : (2 * (bs.length : Int)).toNat = 2 * bs.length := by omega
      rw [en] at hall
      exact s_ret ev_c fun G3 g3 => k _ (.inr ⟨rfl, hall⟩) G3 (eG.trans g3)
theorem sol_round {bs ds ks : List Int} (h : CoM bs ds ks) {t : Nat} (ht : bs.length ≤ t) : solS bs ds ks (t + bs.length) = solS bs ds ks t := by
  unfold solS
  rw [misS_round h ht]
  unfold dm
  rw [Nat.add_mod_right]
theorem sol_all {bs ds : List Int} {x y : Int} (gd : Good bs ds) (h : ∀ t, t < 2 * bs.length → gS bs ds t x = gS bs ds t y) : ∀ t, gS bs ds t x = gS bs ds t y := by
  have cx : CoM bs ds (keepL bs x) := ⟨gd, keepL_len, fun _ => keepL_nn gd.b0⟩
  have cy : CoM bs ds (keepL bs y) := ⟨gd, keepL_len, fun _ => keepL_nn gd.b0⟩
  have n0 := gd.n0
  intro t
  induction t using Nat.strongRecOn with
  | ind t ih =>
    by_cases z : t < 2 * bs.length
    · exact h t z
    · have e : t = (t - bs.length) + bs.length := by omega
      unfold gS
      rw [e, sol_round cx (by omega), sol_round cy (by omega)]
      exact ih (t - bs.length) (by omega)
end Sw
namespace Sw
open PySem PySem.Spec PyProof.Rows L2 Evl LamX NdefX
local macro_rules | `(tactic| walk_at "ev") => `(tactic| first
  | exact ev_c
  | exact ev_var rfl
  | ((with_reducible show Ev (tCB rMax2 _) _ _ _); exact ev_maxi (by walk_at "ev") (by walk_at "ev"))
  | ((with_reducible show Ev (tCB rMn _) _ _ _); exact ev_min2 (by walk_at "ev") (by walk_at "ev"))
  | ((with_reducible show Ev (tUn _ _) _ _ _); exact ev_un (by walk_at "ev") ru_neg)
  | ((with_reducible show Ev (tFld _ _ _) _ _ _); exact ev_fldK (by walk_at "ev") (by assumption))
  | ((with_reducible show Ev (tOp (rI0 _) _ _) _ _ _); exact ev_op (by walk_at "ev") (by walk_at "ev") rv_I0)
  | ((with_reducible show Ev (tOp rEq _ _) _ _ _); exact ev_op (by walk_at "ev") (by walk_at "ev") (rv_eq rfl))
  | ((with_reducible show Ev (tOp rNe _ _) _ _ _); exact ev_op (by walk_at "ev") (by walk_at "ev") (rv_ne rfl)))

/-! ### a list of anything beside the empty list -/
def rNeE (K : PySem.W.Frag) : R2 := fun x y H Q => ∃ a b xs, x = .ref a ∧ y = .ref b ∧ SqL K H a xs ∧ SqL K H b [] ∧ Q (.bl (!decide (xs.length = 0))) H
theorem op_neE {X : Cx} (hu : X.A.units + 64 < cLine) : OpR X (compareOp .NotEq) (rNeE X.K) := by
  intro pins s σ H x y v u Q I rx ry ⟨a, b, xs, ex, ey, h1, h2, q⟩
  subst ex ey
  cases rx
  cases ry
  obtain ⟨its, rv, ⟨o, n, ho, hc, hdn, hd⟩, _⟩ := I.list h1
  obtain ⟨jts, rv2, ⟨o2, n2, ho2, hc2, hdn2, hd2⟩, _⟩ := I.list h2
  have l1 := rv.length
  have l2 := rv2.length
  have A1 : s.heap.IsList a its.toArray := ⟨o, ho, hc, n, hd⟩
  have A2 : s.heap.IsList b jts.toArray := ⟨o2, ho2, hc2, n2, hd2⟩
  have hu' : X.A.units < cLine := by omega
  by_cases hx : xs.length = 0
  · have hq : Q (.bl false) H := by rw [hx] at q; exact q
    have e1 : its.length = 0 := by omega
    have e2 : jts.length = 0 := by rw [← l2]; rfl
    have z := SeqAt.RcNeAt.lists (e := fun _ => true) A1 A2 (by rw [List.size_toArray, List.size_toArray, e1, e2]) hu' (fun j j1 => absurd j1 (by rw [List.size_toArray, e1]; omega))
    have ez : (!(List.range its.toArray.size).all fun _ => true) = false := by rw [List.size_toArray, e1]; rfl
    rw [ez] at z
    exact z _ _ _ _ ⟨.bl false, H, I, rfl, hq⟩
  · have hq : Q (.bl true) H := by simp [hx] at q; exact q
    have e2 : jts.length = 0 := by rw [← l2]; rfl
    exact (SeqAt.RcNeAt.lists_lengths A1 A2 (by rw [List.size_toArray, List.size_toArray, e2]; simp; intro z; apply hx; rw [l1, z]; rfl) hu') _ _ _ _ ⟨.bl true, H, I, rfl, hq⟩
theorem ev_neE {K : PySem.W.Frag} {σ : L2.St} {H : Hp} {ta tb : TE} {p : Addr} {xs : List V} (ha : Ev ta σ H (.ref p)) (hx : SqL K H p xs) (hb : EvL tb σ H []) : Ev (tOp (rNeE K) ta tb) σ H (.bl (!decide (xs.length = 0))) := fun H1 e Q q =>
  ha H1 e _ fun H2 e2 => hb H2 (e.trans e2) _ fun r H3 _ e3 h3 => ⟨p, r, xs, rfl, rfl, ex_l ((e.trans e2).trans e3) hx, sq_of h3, q H3 (e2.trans e3)⟩
def rEqE (K : PySem.W.Frag) : R2 := fun x y H Q => ∃ a b xs, x = .ref a ∧ y = .ref b ∧ SqL K H a xs ∧ SqL K H b [] ∧ Q (.bl (decide (xs.length = 0))) H
theorem op_eqE {X : Cx} (hu : X.A.units + 64 < cLine) : OpR X (compareOp .Eq) (rEqE X.K) := by
  intro pins s σ H x y v u Q I rx ry ⟨a, b, xs, ex, ey, h1, h2, q⟩
  subst ex ey
  cases rx
  cases ry
  obtain ⟨its, rv, ⟨o, n, ho, hc, hdn, hd⟩, _⟩ := I.list h1
  obtain ⟨jts, rv2, ⟨o2, n2, ho2, hc2, hdn2, hd2⟩, _⟩ := I.list h2
  have l1 := rv.length
  have l2 := rv2.length
  have A1 : s.heap.IsList a its.toArray := ⟨o, ho, hc, n, hd⟩
  have A2 : s.heap.IsList b jts.toArray := ⟨o2, ho2, hc2, n2, hd2⟩
  have hu' : X.A.units < cLine := by omega
  by_cases hx : xs.length = 0
  · have hq : Q (.bl true) H := by simp [hx] at q; exact q
    have e1 : its.length = 0 := by omega
    have e2 : jts.length = 0 := by rw [← l2]; rfl
    have z := SeqAt.RcAt.lists (e := fun _ => true) A1 A2 (by rw [List.size_toArray, List.size_toArray, e1, e2]) hu' (fun j j1 => absurd j1 (by rw [List.size_toArray, e1]; omega))
    have ez : ((List.range its.toArray.size).all fun _ => true) = true := by rw [List.size_toArray, e1]; rfl
    rw [ez] at z
    exact z _ _ _ _ ⟨.bl true, H, I, rfl, hq⟩
  · have hq : Q (.bl false) H := by simp [hx] at q; exact q
    have e2 : jts.length = 0 := by rw [← l2]; rfl
    exact (SeqAt.RcAt.lists_lengths A1 A2 (by rw [List.size_toArray, List.size_toArray, e2]; simp; intro z; apply hx; rw [l1, z]; rfl) hu') _ _ _ _ ⟨.bl false, H, I, rfl, hq⟩
theorem ev_eqE {K : PySem.W.Frag} {σ : L2.St} {H : Hp} {ta tb : TE} {p : Addr} {xs : List V} (ha : Ev ta σ H (.ref p)) (hx : SqL K H p xs) (hb : EvL tb σ H []) : Ev (tOp (rEqE K) ta tb) σ H (.bl (decide (xs.length = 0))) := fun H1 e Q q =>
  ha H1 e _ fun H2 e2 => hb H2 (e.trans e2) _ fun r H3 _ e3 h3 => ⟨p, r, xs, rfl, rfl, ex_l ((e.trans e2).trans e3) hx, sq_of h3, q H3 (e2.trans e3)⟩
theorem ev_neLE {K : PySem.W.Frag} {σ : L2.St} {H : Hp} {ta tb : TE} {xs : List V} (ha : EvL ta σ H xs) (hb : EvL tb σ H []) : Ev (tOp (rNeE K) ta tb) σ H (.bl (!decide (xs.length = 0))) := fun H1 e Q q =>
  ha H1 e _ fun p H2 _ e2 h2 => hb H2 (e.trans e2) _ fun r H3 _ e3 h3 => ⟨p, r, xs, rfl, rfl, sq_of (e3 _ _ h2), sq_of h3, q H3 (e2.trans e3)⟩
theorem ev_ifE {σ : L2.St} {H : Hp} {ta tb : TE} {tt : TT} {v : V} {b : Bool} (h : EvT tt σ H b) (h1 : b = true → Ev ta σ H v) (h2 : b = false → Ev tb σ H v) : Ev (tIf tt ta tb) σ H v := fun H1 e Q q => h H1 e _ fun H2 e2 => by
  cases b with
  | true => exact h1 rfl H2 (e.trans e2) Q fun H3 e3 => q H3 (e2.trans e3)
  | false => exact h2 rfl H2 (e.trans e2) Q fun H3 e3 => q H3 (e2.trans e3)
theorem x_ifE {σ : L2.St} {H : Hp} {ta tb : TE} {tt : TT} {Q : VK} {b : Bool} (h : EvT tt σ H b) (h1 : b = true → ∀ H1, Ex H H1 → ta σ H1 Q) (h2 : b = false → ∀ H1, Ex H H1 → tb σ H1 Q) : tIf tt ta tb σ H Q := h H (Ex.refl _) _ fun H2 e2 => by
  cases b with
  | true => exact h1 rfl H2 e2
  | false => exact h2 rfl H2 e2
theorem Ev.bl_eq {σ : L2.St} {H : Hp} {te : TE} {i j : Bool} (h : Ev te σ H (.bl i)) (e : i = j) : Ev te σ H (.bl j) := e ▸ h
theorem ev_orV {σ : L2.St} {H : Hp} {ta tb : TE} {a : Bool} (ha : Ev ta σ H (.bl a)) (hb : a = false → Ev tb σ H (.bl true)) : Ev (tOrV ta tb) σ H (.bl true) := fun H1 e Q q => ha H1 e _ fun H2 e2 => ⟨a, rfl, by
  cases a with
  | true => exact q H2 e2
  | false => exact hb rfl H2 (e.trans e2) Q fun H3 e3 => q H3 (e2.trans e3)⟩
variable {P : Program} {w : World} {K : PySem.W.Frag} {mg : Str → Option Value} {base : Heap} {Z : Ad}
/-! ### the law's words -/
def WordIs (word : Str) (g : GK) : Prop := (word = "sold" ∧ g = gS) ∨ (word = "thrown" ∧ g = gT) ∨ (word = "stock" ∧ g = gD)
def sp_lnum (K : PySem.W.Frag) (Z : Ad) : Sp := fun vs H Q _ => ∃ (b : Addr) (word : Str) (day : Nat) (bs ds : List Int) (life : Int) (i : Nat) (g : GK), vs = [.ref b, .str word, .int (day : Int)] ∧ (day : Int) ≤ 1000000000000000000 ∧ BakAt K Z H b bs ds life i ∧ WordIs word g ∧ RetV (.int (g bs ds day life)) H Q
theorem ok__law_number (T : Txt K mg Z) : FnOk P w K mg base CX0 5 Z.f__law_number Z.d__law_number p__law_number (sp_lnum K Z) := by
  refine T.F__law_number.ok sc__law_number (fun vs H Q E h => ?_) (fun cdv Ar outer s H vs Q E hr h => ?_)
  · obtain ⟨b, word, day, bs, ds, life, i, g, rfl, _⟩ := h
    rfl
  · obtain ⟨b, word, day, bs, ds, life, i, g, rfl, hd, hB, hw, k⟩ := h
    refine ⟨_, (pss_cons (ps_if (pt_cmpR op_eq (pv 1) pe_str (nomark _)) (pss_one (ps_ret (pe_meth (pv 0) T.cl_Bakery T.m_Bakery_sold (ok_Bakery_sold T) (hr.mono (by decide)) T.b_Bakery_sold .nil pass0 (pa_cons (pv 2) pa_nil)))) pss_nil)
      (pss_one (ps_ret (pe_ifExp (pt_cmpR op_eq (pv 1) pe_str (nomark _)) (pe_meth (pv 0) T.cl_Bakery T.m_Bakery_thrown (ok_Bakery_thrown T) (hr.mono (by decide)) T.b_Bakery_thrown .nil pass0 (pa_cons (pv 2) pa_nil)) (pe_meth (pv 0) T.cl_Bakery T.m_Bakery_stock (ok_Bakery_stock T) (hr.mono (by decide)) T.b_Bakery_stock .nil pass0 (pa_cons (pv 2) pa_nil)))))), ?_⟩
    rcases hw with ⟨rfl, rfl⟩ | ⟨rfl, rfl⟩ | ⟨rfl, rfl⟩
    · refine q_when (b := true) (et_is (et_test (ev_op (ev_var rfl) ev_c (rv_eq rfl))) (by decide +kernel)) (fun _ H1 e1 => ?_) fun hb => nomatch hb
      exact s_ret (ev_meth (ev_var rfl) ((hB.mono e1).nf _ (by decide)) (ea_cons (ev_var rfl) ea_nil) (spv_Bday (j := 0) (hB.mono e1) hd)) fun H2 e2 => k H2 (e1.trans e2)
    · refine q_when (b := false) (et_is (et_test (ev_op (ev_var rfl) ev_c (rv_eq rfl))) (by decide +kernel)) (fun hb => nomatch hb) fun _ H1 e1 => ?_
      exact s_ret (ev_ifE (b := true) (et_is (et_test (ev_op (ev_var rfl) ev_c (rv_eq rfl))) (by decide +kernel)) (fun _ => ev_meth (ev_var rfl) ((hB.mono e1).nf _ (by decide)) (ea_cons (ev_var rfl) ea_nil) (spv_Bday (j := 2) (hB.mono e1) hd)) fun hb => nomatch hb) fun H2 e2 => k H2 (e1.trans e2)
    · refine q_when (b := false) (et_is (et_test (ev_op (ev_var rfl) ev_c (rv_eq rfl))) (by decide +kernel)) (fun hb => nomatch hb) fun _ H1 e1 => ?_
      exact s_ret (ev_ifE (b := false) (et_is (et_test (ev_op (ev_var rfl) ev_c (rv_eq rfl))) (by decide +kernel)) (fun hb => nomatch hb) fun _ => ev_meth (ev_var rfl) ((hB.mono e1).nf _ (by decide)) (ea_cons (ev_var rfl) ea_nil) (spv_Bstock (hB.mono e1) hd)) fun H2 e2 => k H2 (e1.trans e2)
def sp_lseen (K : PySem.W.Frag) (Z : Ad) : Sp := fun vs H Q _ => ∃ (o : Addr) (word : Str) (g : GK) (day : Nat) (num : Int) (bs ds : List Int) (F A : Addr) (bl : List (Addr × Int)) (rl : List (Addr × Rec)) (N : Addr → Prop), vs = [.ref o, .str word, .int (day : Int), .int num] ∧ WordIs word g ∧ (day : Int) ≤ 1000000000000000000 ∧
  ObsAt K Z (wn H N) o bs ds F A bl rl ∧ rl.length < 1000 ∧ (∀ b, N b → H b ≠ none) ∧ agr (g bs ds day) num bl ≠ [] ∧ ∀ H', SeenAt K Z H o bs ds A (agr (g bs ds day) num bl) rl N (word, (day : Int), num) H' → Q (.int ((agr (g bs ds day) num bl).length : Nat)) H'
theorem ok__law_seen (T : Txt K mg Z) : FnOk P w K mg base CX0 6 Z.f__law_seen Z.d__law_seen p__law_seen (sp_lseen K Z) := by
  refine T.F__law_seen.ok sc__law_seen (fun vs H Q E h => ?_) (fun cdv Ar outer s H vs Q E hr h => ?_)
  · obtain ⟨o, word, g, day, num, bs, ds, F, A, bl, rl, N, rfl, _⟩ := h
    rfl
  · obtain ⟨o, word, g, day, num, bs, ds, F, A, bl, rl, N, rfl, hw, hd, hO, hr1, hN, hne, k⟩ := h
    have hO' := hO.mono wn_ex
    have go : ∀ H1, Ex H H1 → ∃ (o' : Addr) (day' : Nat) (num' : Int) (bs' ds' : List Int) (F' A' : Addr) (bl' : List (Addr × Int)) (rl' : List (Addr × Rec)) (N' : Addr → Prop), [V.ref o, .int (day : Int), .int num] = [.ref o', .int (day' : Int), .int num'] ∧ (day' : Int) ≤ 1000000000000000000 ∧
      ObsAt K Z (wn H1 N') o' bs' ds' F' A' bl' rl' ∧ rl'.length < 1000 ∧ (∀ b, N' b → H1 b ≠ none) ∧ agr (g bs' ds' day') num' bl' ≠ [] ∧ ∀ H', SeenAt K Z H1 o' bs' ds' A' (agr (g bs' ds' day') num' bl') rl' N' (word, (day' : Int), num') H' → Q (.int ((agr (g bs' ds' day') num' bl').length : Nat)) H' := fun H1 e1 =>
      ⟨o, day, num, bs, ds, F, A, bl, rl, N, rfl, hd, hO.mono (wn_mono e1), hr1, fun b hb z => hN b hb (fresh_back e1 z), hne, fun H' hs => k H' (hs.from e1)⟩
    have av : ∀ {σ : L2.St} {H1 : Hp} {R : List V → Hp → Prop}, σ[2]? = some (some (.int (day : Int))) → σ[3]? = some (some (.int num)) → (∀ H2, Ex H1 H2 → R [.int (day : Int), .int num] H2) → (tCons (tVar 2) (tCons (tVar 3) tNil)) σ H1 R := fun s1 s2 k => (ea_cons (ev_var s1) (ea_cons (ev_var s2) ea_nil)) _ (Ex.refl _) _ k
    refine ⟨_, (pss_cons (ps_if (pt_cmpR op_eq (pv 1) pe_str (nomark _)) (pss_one (ps_ret (pe_meth (pv 0) T.cl_LifeObserver T.m_LifeObserver_see_sold (ok_LifeObserver_see_sold T) (hr.mono (by decide)) T.b_LifeObserver_see_sold .nil pass0 (pa_cons (pv 2) (pa_cons (pv 3) pa_nil))))) pss_nil)
      (pss_one (ps_ret (pe_ifExp (pt_cmpR op_eq (pv 1) pe_str (nomark _)) (pe_meth (pv 0) T.cl_LifeObserver T.m_LifeObserver_see_thrown (ok_LifeObserver_see_thrown T) (hr.mono (by decide)) T.b_LifeObserver_see_thrown .nil pass0 (pa_cons (pv 2) (pa_cons (pv 3) pa_nil))) (pe_meth (pv 0) T.cl_LifeObserver T.m_LifeObserver_see_stock (ok_LifeObserver_see_stock T) (hr.mono (by decide)) T.b_LifeObserver_see_stock .nil pass0 (pa_cons (pv 2) (pa_cons (pv 3) pa_nil))))))), ?_⟩
    rcases hw with ⟨rfl, rfl⟩ | ⟨rfl, rfl⟩ | ⟨rfl, rfl⟩
    · refine q_when (b := true) (et_is (et_test (ev_op (ev_var rfl) ev_c (rv_eq rfl))) (by decide +kernel)) (fun _ H1 e1 => ?_) fun hb => nomatch hb
      exact r_meth (ev_var rfl) ((hO'.mono e1).nf (by decide)) fun H2 e2 => av rfl rfl fun H3 e3 => go H3 ((e1.trans e2).trans e3)
    · refine q_when (b := false) (et_is (et_test (ev_op (ev_var rfl) ev_c (rv_eq rfl))) (by decide +kernel)) (fun hb => nomatch hb) fun _ H1 e1 => ?_
      exact x_ifE (b := true) (et_is (et_test (ev_op (ev_var rfl) ev_c (rv_eq rfl))) (by decide +kernel)) (fun _ H1b e1b => r_meth (ev_var rfl) ((hO'.mono (e1.trans e1b)).nf (by decide)) fun H2 e2 => av rfl rfl fun H3 e3 => go H3 (((e1.trans e1b).trans e2).trans e3)) fun hb => nomatch hb
    · refine q_when (b := false) (et_is (et_test (ev_op (ev_var rfl) ev_c (rv_eq rfl))) (by decide +kernel)) (fun hb => nomatch hb) fun _ H1 e1 => ?_
      exact x_ifE (b := false) (et_is (et_test (ev_op (ev_var rfl) ev_c (rv_eq rfl))) (by decide +kernel)) (fun hb => nomatch hb) fun _ H1b e1b => r_meth (ev_var rfl) ((hO'.mono (e1.trans e1b)).nf (by decide)) fun H2 e2 => av rfl rfl fun H3 e3 => go H3 (((e1.trans e1b).trans e2).trans e3)
def sp_lseenX (K : PySem.W.Frag) (Z : Ad) : Sp := fun vs H _ E => ∃ (o : Addr) (word : Str) (g : GK) (day : Nat) (num : Int) (bs ds : List Int) (F A : Addr) (bl : List (Addr × Int)) (rl : List (Addr × Rec)), vs = [.ref o, .str word, .int (day : Int), .int num] ∧ WordIs word g ∧ (day : Int) ≤ 1000000000000000000 ∧
  ObsAt K Z H o bs ds F A bl rl ∧ agr (g bs ds day) num bl = [] ∧ num.natAbs < 10 ^ 30 ∧ ∀ H', Ex H H' → E (.ref Z.c_Contradiction) none H'
theorem okX__law_seen (T : Txt K mg Z) (hP : P = Z.P) : FnOk P w K mg base (L2.CX P w) 6 Z.f__law_seen Z.d__law_seen p__law_seen (sp_lseenX K Z) := by
  refine T.F__law_seen.okX sc__law_seen (fun vs H Q E h => ?_) (fun cdv Ar outer s H vs Q E hr h => ?_)
  · obtain ⟨o, word, g, day, num, bs, ds, F, A, bl, rl, rfl, _⟩ := h
    rfl
  · obtain ⟨o, word, g, day, num, bs, ds, F, A, bl, rl, rfl, hw, hd, hO, hne, hn, k⟩ := h
    have go : ∀ H1, Ex H H1 → ∃ (o' : Addr) (day' : Nat) (num' : Int) (bs' ds' : List Int) (F' A' : Addr) (bl' : List (Addr × Int)) (rl' : List (Addr × Rec)), [V.ref o, .int (day : Int), .int num] = [.ref o', .int (day' : Int), .int num'] ∧ (day' : Int) ≤ 1000000000000000000 ∧
      ObsAt K Z H1 o' bs' ds' F' A' bl' rl' ∧ agr (g bs' ds' day') num' bl' = [] ∧ num'.natAbs < 10 ^ 30 ∧ ∀ H', Ex H1 H' → E (.ref Z.c_Contradiction) none H' := fun H1 e1 => ⟨o, day, num, bs, ds, F, A, bl, rl, rfl, hd, hO.mono e1, hne, hn, fun H' e => k H' (e1.trans e)⟩
    have av : ∀ {σ : L2.St} {H1 : Hp} {R : List V → Hp → Prop}, σ[2]? = some (some (.int (day : Int))) → σ[3]? = some (some (.int num)) → (∀ H2, Ex H1 H2 → R [.int (day : Int), .int num] H2) → (tCons (tVar 2) (tCons (tVar 3) tNil)) σ H1 R := fun s1 s2 k => (ea_cons (ev_var s1) (ea_cons (ev_var s2) ea_nil)) _ (Ex.refl _) _ k
    refine ⟨_, (pss_cons (ps_if (pt_cmpR op_eq (pv 1) pe_str (nomark _)) (pss_one (ps_ret (pe_meth (pv 0) T.cl_LifeObserver T.m_LifeObserver_see_sold (okM_LifeObserver_see_sold T hP) (hr.mono (by decide)) T.b_LifeObserver_see_sold .nil (passes_call (takes_of rfl rfl rfl rfl) (fun _ _ _ _ h => h)) (pa_cons (pv 2) (pa_cons (pv 3) pa_nil))))) pss_nil)
      (pss_one (ps_ret (pe_ifExp (pt_cmpR op_eq (pv 1) pe_str (nomark _)) (pe_meth (pv 0) T.cl_LifeObserver T.m_LifeObserver_see_thrown (okM_LifeObserver_see_thrown T hP) (hr.mono (by decide)) T.b_LifeObserver_see_thrown .nil (passes_call (takes_of rfl rfl rfl rfl) (fun _ _ _ _ h => h)) (pa_cons (pv 2) (pa_cons (pv 3) pa_nil))) (pe_meth (pv 0) T.cl_LifeObserver T.m_LifeObserver_see_stock (okM_LifeObserver_see_stock T hP) (hr.mono (by decide)) T.b_LifeObserver_see_stock .nil (passes_call (takes_of rfl rfl rfl rfl) (fun _ _ _ _ h => h)) (pa_cons (pv 2) (pa_cons (pv 3) pa_nil))))))), ?_⟩
    rcases hw with ⟨rfl, rfl⟩ | ⟨rfl, rfl⟩ | ⟨rfl, rfl⟩
    · refine q_when (b := true) (et_is (et_test (ev_op (ev_var rfl) ev_c (rv_eq rfl))) (by decide +kernel)) (fun _ H1 e1 => ?_) fun hb => nomatch hb
      exact r_meth (ev_var rfl) ((hO.mono e1).nf (by decide)) fun H2 e2 => av rfl rfl fun H3 e3 => .inr (go H3 ((e1.trans e2).trans e3))
    · refine q_when (b := false) (et_is (et_test (ev_op (ev_var rfl) ev_c (rv_eq rfl))) (by decide +kernel)) (fun hb => nomatch hb) fun _ H1 e1 => ?_
      exact x_ifE (b := true) (et_is (et_test (ev_op (ev_var rfl) ev_c (rv_eq rfl))) (by decide +kernel)) (fun _ H1b e1b => r_meth (ev_var rfl) ((hO.mono (e1.trans e1b)).nf (by decide)) fun H2 e2 => av rfl rfl fun H3 e3 => .inr (go H3 (((e1.trans e1b).trans e2).trans e3))) fun hb => nomatch hb
    · refine q_when (b := false) (et_is (et_test (ev_op (ev_var rfl) ev_c (rv_eq rfl))) (by decide +kernel)) (fun hb => nomatch hb) fun _ H1 e1 => ?_
      exact x_ifE (b := false) (et_is (et_test (ev_op (ev_var rfl) ev_c (rv_eq rfl))) (by decide +kernel)) (fun hb => nomatch hb) fun _ H1b e1b => r_meth (ev_var rfl) ((hO.mono (e1.trans e1b)).nf (by decide)) fun H2 e2 => av rfl rfl fun H3 e3 => .inr (go H3 (((e1.trans e1b).trans e2).trans e3))
theorem okM__law_seen (T : Txt K mg Z) (hP : P = Z.P) : FnOk P w K mg base (L2.CX P w) 6 Z.f__law_seen Z.d__law_seen p__law_seen (spOr (sp_lseen K Z) (sp_lseenX K Z)) := fn_or (fn_lift (ok__law_seen T)) (okX__law_seen T hP)
/-! ### the telling day, looked at from all bakeries -/
def sp_tr (K : PySem.W.Frag) (Z : Ad) : Sp := fun vs H Q _ => ∃ (o X : Addr) (bs ds : List Int) (F A : Addr) (bl : List (Addr × Int)) (rl : List (Addr × Rec)) (el : List (Addr × Int)), vs = [.ref o, .ref X] ∧ ObsAt K Z H o bs ds F A bl rl ∧ bl ≠ [] ∧ SqL K H X (el.map fun x => V.ref x.1) ∧ (∀ x ∈ el, ∃ i, BakAt K Z H x.1 bs ds x.2 i) ∧ el.map (·.2) = bl.map (·.2) ∧ RetV (.bl true) H Q
theorem ok__law_telling_right (T : Txt K mg Z) : FnOk P w K mg base CX0 6 Z.f__law_telling_right Z.d__law_telling_right p__law_telling_right (sp_tr K Z) := by
  refine T.F__law_telling_right.ok sc__law_telling_right (fun vs H Q E h => ?_) (fun cdv Ar outer s H vs Q E hr h => ?_)
  · obtain ⟨o, X, bs, ds, F, A, bl, rl, el, rfl, _⟩ := h
    rfl
  · obtain ⟨o, X, bs, ds, F, A, bl, rl, el, rfl, hO, hne, hX, hE, hL, k⟩ := h
    have gd := hO.gd
    have n1 := gd.n1
    have nb := hO.nb
    have hlen : el.length = bl.length := by
      have z := congrArg List.length hL
      simpa using z
    have e0 : 0 < el.length := by
      rw [hlen]
      cases bl with
      | nil => exact absurd rfl hne
      | cons a r => show 0 < r.length + 1; omega
    have em : ∀ x ∈ el, x.2 ∈ bl.map (·.2) := fun x hx => by rw [← hL]; exact List.mem_map.mpr ⟨x, hx, rfl⟩
    have m0 : el.getD 0 (0, 0) ∈ el := by
      have e : el.getD 0 (0, 0) = el[0] := by simp [List.getD, e0]
      rw [e]; exact List.getElem_mem e0
    have soldE : ∀ {σ : L2.St} {G : Hp} {E' : XK} {te td : TE} {x : Addr × Int} {t : Nat}, Ex H G → x ∈ el → Ev te σ G (.ref x.1) → Ev td σ G (.int (t : Int)) → (t : Int) ≤ 1000000000000000000 → Ev (tMeth Z.c_Bakery "sold" (sp_Bday K Z 0) [] E' te (tCons td tNil)) σ G (.int (gS bs ds t x.2)) := fun e hx h1 h2 ht => by
      obtain ⟨i, hB⟩ := hE _ hx
      have hB := hB.mono e
      exact ev_meth h1 (hB.nf _ (by decide)) (ea_cons h2 ea_nil) (spv_Bday (j := 0) hB ht)
    have x0 : ∀ {σ : L2.St} {G : Hp} {te : TE}, Ex H G → Ev te σ G (.ref X) → Ev (tOp (rIxL K) te (tC (.int 0))) σ G (.ref (el.getD 0 (0, 0)).1) := fun e h => ev_ixL h (ex_l e hX) ev_c (atI_nat (j := 0) (by
      rw [List.getElem?_map, List.getElem?_eq_getElem e0]
      simp [List.getD, e0]))
    refine ⟨_, (pss_cons (ps_set (i := 2) sc__law_telling_right.nd rfl (Or.inr rfl) (pe_meth0 (pv 0) T.cl_LifeObserver T.m_LifeObserver_telling_day (ok_LifeObserver_telling_day T) (hr.mono (by decide)) T.b_LifeObserver_telling_day .nil pass0))
      (pss_cons (ps_for PassesOwn.never rfl (pi_range1 (by rfl) T.b_range (pa_cons (pe_ifExp (pt_cmp (pc_isN (pv 2))) pe_int (pe_callB (r := rMn) (call_min2 rfl) (by rfl) T.b_min boot_min (pa_cons pe_int (pa_cons (pv 2) pa_nil)))) pa_nil)) (pg_name (i := 3) sc__law_telling_right.nd rfl (Or.inr rfl)) (pss_one (ps_if (pt_cmpR (op_neE hr.units) (pe_lc (own := [("_law_other", 4)]) rfl sc__law_telling_right.nd (pi_listK K rfl (pv 1)) (blkOk_by (own := [("_law_other", 4)]) (N := n__law_telling_right) (sc := defScope s__law_telling_right) (scope := { kind := PySem.ScopeKind.function, names := [ (PySem.Str.ofString ".0", PySem.NameKind.local), (PySem.Str.ofString "_law_other", PySem.NameKind.local), (PySem.Str.ofString "_law_every", PySem.NameKind.free), (PySem.Str.ofString "_law_one", PySem.NameKind.free)], isGenerator := false, isCoroutine := false, more := [] : PySem.Scope }) (by decide +kernel)) (fun _ _ _ _ _ => (pg_name (i := 4) sc__law_telling_right.nd rfl (Or.inl rfl))) (fun _ _ _ _ _ => (pts_one (pt_cmpR op_ne (pe_meth (pv 4) T.cl_Bakery T.m_Bakery_sold (ok_Bakery_sold T) (hr.mono (by decide)) T.b_Bakery_sold .nil pass0 (pa_cons (pv 3) pa_nil)) (pe_meth (pe_ix (r := rIxL K) ix_list (pv 1) pe_int (fun _ _ => rfl)) T.cl_Bakery T.m_Bakery_sold (ok_Bakery_sold T) (hr.mono (by decide)) T.b_Bakery_sold .nil pass0 (pa_cons (pv 3) pa_nil)) (nomark _)))) (fun _ _ _ _ _ => (pv 4))) (pe_lst pa_nil) (nomark _)) (pss_one (ps_ret pe_bl)) pss_nil)))
      (pss_one (ps_ret (pe_or (pe_cmp (pc_isN (pv 2))) (pe_one (pe_cmpR (op_neE hr.units) (pe_lc (own := [("_law_one", 3)]) rfl sc__law_telling_right.nd (pi_listK K rfl (pv 1)) (blkOk_by (own := [("_law_one", 3)]) (N := n__law_telling_right) (sc := defScope s__law_telling_right) (scope := { kind := PySem.ScopeKind.function, names := [ (PySem.Str.ofString ".0", PySem.NameKind.local), (PySem.Str.ofString "_law_one", PySem.NameKind.local), (PySem.Str.ofString "_law_day", PySem.NameKind.free), (PySem.Str.ofString "_law_every", PySem.NameKind.free)], isGenerator := false, isCoroutine := false, more := [] : PySem.Scope }) (by decide +kernel)) (fun _ _ _ _ _ => (pg_name (i := 3) sc__law_telling_right.nd rfl (Or.inl rfl))) (fun _ _ _ _ _ => (pts_one (pt_cmpR op_ne (pe_meth (pv 3) T.cl_Bakery T.m_Bakery_sold (ok_Bakery_sold T) (hr.mono (by decide)) T.b_Bakery_sold .nil pass0 (pa_cons (pv 2) pa_nil)) (pe_meth (pe_ix (r := rIxL K) ix_list (pv 1) pe_int (fun _ _ => rfl)) T.cl_Bakery T.m_Bakery_sold (ok_Bakery_sold T) (hr.mono (by decide)) T.b_Bakery_sold .nil pass0 (pa_cons (pv 2) pa_nil)) (nomark _)))) (fun _ _ _ _ _ => (pv 3))) (pe_lst pa_nil) (nomark _)))))))), ?_⟩
    refine r_meth (ev_var rfl) (hO.nf (by decide)) fun H1 e1 => ?_
    refine ⟨o, bs, ds, F, A, bl, rl, rfl, hO.mono e1, hne, fun v hv H2 e2 => ?_⟩
    have e12 := e1.trans e2
    obtain ⟨m, hm0, hm1, hev, hall⟩ : ∃ m : Int, 0 ≤ m ∧ m ≤ 61 ∧ (∀ (σ' : L2.St) G, σ'[2]? = some (some v) → Ev (tIf (tB (tIsN (tVar 2))) (tC (.int 61)) (tCB rMn (tCons (tC (.int 61)) (tCons (tVar 2) tNil)))) σ' G (.int m)) ∧ ∀ t : Nat, (t : Int) < m → ∀ x ∈ bl.map (·.2), ∀ y ∈ bl.map (·.2), gS bs ds t x = gS bs ds t y := by
      rcases hv with ⟨d, rfl, hd, _, hal⟩ | ⟨rfl, hal⟩
      · refine ⟨min 61 (d : Int), by omega, by omega, fun σ' G h => ev_ifE (b := false) (et_B (ev_isN (ev_var h))) (fun hb => nomatch hb) fun _ => ev_min2 ev_c (ev_var h), fun t ht => hal t (by omega)⟩
      · exact ⟨61, by decide, by decide, fun σ' G h => ev_ifE (b := true) (et_B (ev_isN (ev_var h))) (fun _ => ev_c) fun hb => (nomatch hb), fun t _ x hx y hy => sol_all gd (fun u hu => hal u hu x hx y hy) t⟩
    refine q_forR1 (n := m) (ea_cons (hev _ _ rfl) ea_nil) ⟨hm0, by omega⟩ (fun t σ' H' => (∃ x3 x4, σ' = [some (.ref o), some (.ref X), some v, x3, x4]) ∧ Ex H H') (fun H3 e3 => ⟨⟨_, _, rfl⟩, e12.trans e3⟩) ?_ ?_
    · rintro t σ' G ht ⟨⟨_, _, rfl⟩, eG⟩
      refine s_when (b := false) (et_is (et_test (ev_neLE (xs := []) (el_eq (el_lcL (xs := el.map fun x => V.ref x.1) (a := X) (fun _ => false) (fun i => V.ref (el.getD i (0, 0)).1) (ev_var rfl) (ex_l eG hX) (by rw [List.length_map]; omega) (fun _ => rfl) (fun i x G1 g1 hx => ?_) (fun i x G1 g1 hx hf => nomatch hf)) (given_none fun _ _ => rfl)) (el_lst ea_nil (by show 0 ≤ 100000; decide)))) (by rfl)) (fun hb => nomatch hb) fun _ G2 g2 => ⟨⟨_, _, rfl⟩, eG.trans g2⟩
      obtain ⟨rfl, _, hmem⟩ := at_mapG (d := ((0, 0) : Addr × Int)) hx
      have hq := hall t ht _ (em _ hmem) _ (em _ m0)
      exact et_is (et_test (ev_op (soldE (t := t) (eG.trans g1) hmem (ev_var rfl) (ev_var rfl) (by omega)) (soldE (t := t) (eG.trans g1) m0 (x0 (eG.trans g1) (ev_var rfl)) (ev_var rfl) (by omega)) (rv_ne rfl))) (by rw [hq]; simp)
    · rintro σ' G ⟨⟨_, _, rfl⟩, eG⟩
      rcases hv with ⟨d, rfl, hd, ⟨x, hx, y, hy, hxy⟩, hal⟩ | ⟨rfl, hal⟩
      · have eG1 := eG
        have hd0 : (d : Int) ≤ 1000000000000000000 := by omega
        have eN : (given el.length (fun i => !decide (gS bs ds d (el.getD i (0, 0)).2 = gS bs ds d (el.getD 0 (0, 0)).2)) (fun i => V.ref (el.getD i (0, 0)).1)).length ≠ 0 := by
          rw [given_gen (ns := el) (d := ((0, 0) : Addr × Int)) (f := fun x => !decide (gS bs ds d x.2 = gS bs ds d (el.getD 0 (0, 0)).2)) (v := fun x => V.ref x.1), List.length_map]
          intro z
          have z := List.length_eq_zero_iff.mp z
          have all : ∀ l ∈ bl.map (·.2), gS bs ds d l = gS bs ds d (el.getD 0 (0, 0)).2 := fun l hl => by
            rw [← hL] at hl
            obtain ⟨u, hu, rfl⟩ := List.mem_map.mp hl
            have q := List.filter_eq_nil_iff.mp z u hu
            simpa using q
          exact hxy ((all x hx).trans (all y hy).symm)
        refine s_ret (ev_orV (a := false) (Ev.bl_eq (ev_isN (x := .int (d : Int)) (ev_var rfl)) (by rfl)) fun _ => Ev.bl_eq (ev_neLE (el_lcL (xs := el.map fun x => V.ref x.1) (a := X) (fun i => !decide (gS bs ds d (el.getD i (0, 0)).2 = gS bs ds d (el.getD 0 (0, 0)).2)) (fun i => V.ref (el.getD i (0, 0)).1) (ev_var rfl) (ex_l eG1 hX) (by rw [List.length_map]; omega) (fun _ => rfl) (fun i x G2 g2 hx => ?_) (fun i x G2 g2 hx _ => ?_)) (el_lst ea_nil (by show 0 ≤ 100000; decide))) (by rw [List.length_map]; simp only [eN, decide_false, Bool.not_false])) fun G2 g2 => k G2 (eG1.trans g2)
        · obtain ⟨rfl, _, hmem⟩ := at_mapG (d := ((0, 0) : Addr × Int)) hx
          exact et_is (et_test (ev_op (soldE (t := d) (eG1.trans g2) hmem (ev_var rfl) (ev_var rfl) hd0) (soldE (t := d) (eG1.trans g2) m0 (x0 (eG1.trans g2) (ev_var rfl)) (ev_var rfl) hd0) (rv_ne rfl))) (by simp)
        · obtain ⟨rfl, _, hmem⟩ := at_mapG (d := ((0, 0) : Addr × Int)) hx
          exact ev_var rfl
      · exact s_ret (ev_orV (a := true) (Ev.bl_eq (ev_isN (x := .non) (ev_var rfl)) (by rfl)) fun hb => nomatch hb) fun G1 g1 => k G1 (eG.trans g1)
end Sw
namespace Sw
open PySem PySem.Spec PyProof.Rows L2 Evl LamX NdefX
local macro_rules | `(tactic| walk_at "ev") => `(tactic| first
  | exact ev_c
  | exact ev_var rfl
  | ((with_reducible show Ev (tCB rMax2 _) _ _ _); exact ev_maxi (by walk_at "ev") (by walk_at "ev"))
  | ((with_reducible show Ev (tCB rMn _) _ _ _); exact ev_min2 (by walk_at "ev") (by walk_at "ev"))
  | ((with_reducible show Ev (tUn _ _) _ _ _); exact ev_un (by walk_at "ev") ru_neg)
  | ((with_reducible show Ev (tFld _ _ _) _ _ _); exact ev_fldK (by walk_at "ev") (by assumption))
  | ((with_reducible show Ev (tOp (rI0 _) _ _) _ _ _); exact ev_op (by walk_at "ev") (by walk_at "ev") rv_I0)
  | ((with_reducible show Ev (tOp rEq _ _) _ _ _); exact ev_op (by walk_at "ev") (by walk_at "ev") (rv_eq rfl))
  | ((with_reducible show Ev (tOp rNe _ _) _ _ _); exact ev_op (by walk_at "ev") (by walk_at "ev") (rv_ne rfl)))

/-! ### what is known, carried over a lambda's making -/
section
variable {K : PySem.W.Frag} {Z : Ad} {H H1 H' Hz : Hp} {a c C : Addr} {f m : Str} {v : V} {bs ds ks : List Int} {tb td tk : Addr} {gain first full : Int} {fm lm : List Int} {b h l : Addr} {life : Int} {i : Nat}
theorem flk_nt (x : FlK K H a C f v) : FlK K (nt H) a C f v := ⟨let ⟨dx, fs, e, q⟩ := x.fl; ⟨dx, fs, nt_of e (fun _ z => nomatch z), q⟩, x.cl, x.na⟩
theorem nof_nt (x : NoF H a C m) : NoF (nt H) a C m := let ⟨dx, fs, e, q⟩ := x; ⟨dx, fs, nt_of e (fun _ z => nomatch z), q⟩
theorem pr_nt (x : PR K Z H c bs ds ks tb td tk) : PR K Z (nt H) c bs ds ks tb td tk := ⟨flk_nt x.fb, nt_t x.hb, flk_nt x.fd, nt_t x.hd, flk_nt x.fk, nt_l x.hk, nof_nt x.nf, x.gd, x.kl⟩
theorem sr_nt (x : SR K Z H c bs ds ks tb td tk gain first full) : SR K Z (nt H) c bs ds ks tb td tk gain first full := ⟨pr_nt x.pr, flk_nt x.fg, flk_nt x.ff, flk_nt x.fu, nof_nt x.nf, x.gb⟩
theorem co_nt (x : CO K Z H c bs ds ks gain first full fm lm) : CO K Z (nt H) c bs ds ks gain first full fm lm :=
  ⟨let ⟨a, b, c, y⟩ := x.sr; ⟨a, b, c, sr_nt y⟩, let ⟨a, y, z⟩ := x.ffm; ⟨a, flk_nt y, nt_l z⟩, let ⟨a, y, z⟩ := x.flm; ⟨a, flk_nt y, nt_l z⟩, x.lfm, x.llm, x.slm, x.sb, x.sd, fun m hm => nof_nt (x.nf m hm)⟩
theorem bak_nt (x : BakAt K Z H b bs ds life i) : BakAt K Z (nt H) b bs ds life i :=
  ⟨let ⟨a, y, z⟩ := x.fb; ⟨a, flk_nt y, nt_t z⟩, let ⟨a, y, z⟩ := x.fd; ⟨a, flk_nt y, nt_t z⟩, flk_nt x.fl, let ⟨a, y, z⟩ := x.fc; ⟨a, flk_nt y, co_nt z⟩, flk_nt x.fs, let ⟨a, y, z⟩ := x.fr; ⟨a, flk_nt y, nt_t z⟩, x.gd, x.l0, x.l1, x.hi, fun m hm => nof_nt (x.nf m hm)⟩
theorem bak_ext (e : ExtN H H1) (x : BakAt K Z H b bs ds life i) : BakAt K Z H1 b bs ds life i := (bak_nt x).mono ((extN_nt e).trans nt_ex)
end
section
variable {K : PySem.W.Frag} {h l : Addr} {G G' H H' : Hp}
theorem hs_ext (e : ExtN G G') (q : HS G h l) : HS G' h l := let ⟨p, m, r, h1, h2, z⟩ := q; ⟨p, m, r, e _ _ h1 (fun _ z => nomatch z), e _ _ h2 (fun _ z => nomatch z), z⟩
theorem tabs_dr {T : List NTab} (hs : HS H h l) (d : Dr h l H H') (t : TabsN T H) : TabsN T H' := by
  have t1 : TabsN T (wn H (hl h l)) := fun p hp => by
    obtain ⟨ps, h1, h2, h3⟩ := t p hp
    refine ⟨ps, (wn_ni (hl_kind hs h1 fun _ z => nomatch z)).trans h1, h2, fun pos cv hc => ?_⟩
    obtain ⟨c, e1, e2⟩ := h3 pos cv hc
    exact ⟨c, e1, (wn_ni (hl_kind hs e2 fun _ z => by unfold CodeO at z; cases z)).trans e2⟩
  exact (t1.ext d.ex).ext wn_ex
end
section
variable {K : PySem.W.Frag} {σ : L2.St} {H H' : Hp} {h l : Addr} {ta tb te : TE} {D : Ends} {tz : TS} {m n : Nat} {A : Int → Prop}
theorem q_pairX {P : V → Hp → Prop} (hs : HS H h l) (hx : EvX ta σ H h l P) (hy : EvI tb σ H h l A) (k : ∀ v j H1 H2, Dr h l H H1 → Dr h l H1 H2 → P v (wn H1 (hl h l)) → A j → tz D ((σ.set m (some v)).set n (some (.int j))) H2) :
    tSeq (tAsg (tTup (tCons ta (tCons tb tNil))) (gTup K 2 (gCons (gName m) (gCons (gName n) gNil)))) tz D σ H :=
  hx H (Dr.refl hs) _ fun v H1 d1 p1 => hy H1 d1 _ fun w H2 d2 ⟨j, e, hj⟩ => ⟨by show 2 ≤ sizeLine; decide, fun r hr => by
    subst e
    have d3 := Dr.of d2.hs (Ex.new (o := .tup [v, .int j]) hr)
    exact ⟨r, [v, .int j], rfl, st_of upd_same, rfl, _, _, rfl, _, _, rfl, rfl, k v j H1 _ d1 (d2.trans d3) p1 hj⟩⟩
theorem x_pickV {xs : List V} {B : Int → Prop} (ha : EvL ta σ (wn H (hl h l)) xs) (hb : EvI tb σ H h l B) (hn : ∀ i, B i → 0 ≤ i ∧ i < xs.length) : EvX (tOp (rIxL K) ta tb) σ H h l (fun v _ => v ∈ xs) := fun H1 d Q q =>
  x_evL ha H1 d _ fun _ H2 d2 ⟨p, e, hp⟩ => hb H2 (d.trans d2) _ fun _ H3 d3 ⟨j, e', hj⟩ => by
    subst e e'
    obtain ⟨j0, j1⟩ := hn j hj
    have hlt : j.toNat < xs.length := by omega
    have z : atI xs ((j.toNat : Nat) : Int) = some xs[j.toNat] := atI_nat (List.getElem?_eq_getElem hlt)
    rw [Int.toNat_of_nonneg j0] at z
    exact ⟨p, xs, j, xs[j.toNat], rfl, rfl, sq_of (wn_ex _ _ (d3.ex _ _ hp)), z, q _ H3 (d2.trans d3) (List.getElem_mem hlt)⟩
theorem q_forX {j : Nat} {tu : TS} (hs : HS H h l) (hx : EvI te σ H h l A) (k : ∀ i H1, Dr h l H H1 → A i → tSeq (tFor (iRng1 (tCons (tC (.int i)) tNil)) (gName j) tu) tz D σ H1) : tSeq (tFor (iRng1 (tCons te tNil)) (gName j) tu) tz D σ H :=
  hx H (Dr.refl hs) _ fun v H1 d ⟨i, e, hi⟩ => by
    subst e
    exact k i H1 d hi
theorem q_asgR {i : Nat} {M : Addr → Prop} {Pr : Addr → Hp → Prop} (hx : EvR te σ H M Pr) (kn : ∀ b, M b → H b ≠ none) (k : ∀ p H', H p = none → Ex H H' → Pr p (wn H' M) → tz D (σ.set i (some (.ref p))) H') : tSeq (tAsg te (gName i)) tz D σ H :=
  hx H (Ex.refl _) kn _ fun p H2 np e2 hP => k p H2 np e2 hP
theorem q_pairLL {xs ys : List V} (hx : EvL ta σ H xs) (hy : EvL tb σ H ys) (k : ∀ p q H2, H p = none → H q = none → p ≠ q → Ex H H2 → H2 p = some (.lst xs) → H2 q = some (.lst ys) → tz D ((σ.set m (some (.ref p))).set n (some (.ref q))) H2) :
    tSeq (tAsg (tTup (tCons ta (tCons tb tNil))) (gTup K 2 (gCons (gName m) (gCons (gName n) gNil)))) tz D σ H :=
  hx H (Ex.refl _) _ fun p H1 np e1 h1 => hy H1 e1 _ fun q H2 nq e2 h2 => ⟨by show 2 ≤ sizeLine; decide, fun r hr => by
    have e3 := Ex.new (o := .tup [.ref p, .ref q]) hr
    exact ⟨r, [.ref p, .ref q], rfl, st_of upd_same, rfl, _, _, rfl, _, _, rfl, rfl, k p q _ np (fresh_back e1 nq) (fun z => by rw [← z, h1] at nq; cases nq) ((e1.trans e2).trans e3) (e3 _ _ (e2 _ _ h1)) (e3 _ _ h2)⟩⟩
end
section
theorem mix_over {Cl : Addr → Prop} {H H3 : Hp} (e : Ex (wn H Cl) H3) : Ex H (mixN Cl H H3) := fun b o q => by
  by_cases n : Cl b
  · rw [mix_in n]; exact q
  · rw [mix_ni n]; exact e b o ((wn_ni n).trans q)
theorem cl_none {X : Cx} {σ : L2.St} {H Hz : Hp} {N : Addr → Prop} {scope : Scope} (z : Frz X σ H Hz N) (hfree : ∀ y ∈ scope.names, y.2 = .free → X.env.scope.names.lookup y.1 = some .cell ∨ X.env.scope.names.lookup y.1 = some .free) : ∀ y c, (cloFrom X.env.cells scope.names []).lookup y = some c → H c = none := fun y c e =>
  z.off c ((z.iff c).mpr ⟨y, clo_cm (fun y hy e => z.has y.1 (hfree y hy e)) e⟩)
end
def Mr (L : Addr → Prop) (r : Addr) : Addr → Prop := fun b => b = r ∨ L b
variable {P : Program} {w : World} {K : PySem.W.Frag} {mg : Str → Option Value} {base : Heap} {Z : Ad}
/-! ### how great a number is -/
theorem dm_in {bs ds : List Int} (gd : Good bs ds) (t : Nat) : 0 ≤ dm bs ds t ∧ dm bs ds t ≤ 1000000000 := by
  unfold dm
  have lt : t % bs.length < ds.length := by rw [gd.ld]; exact Nat.mod_lt _ gd.n0
  have e : ds.getD (t % bs.length) 0 = ds[t % bs.length] := by simp [List.getD, lt]
  rw [e]; exact gd.d0 _ (List.getElem_mem lt)
theorem bk_in {bs ds : List Int} (gd : Good bs ds) (t : Nat) : 0 ≤ bk bs t ∧ bk bs t ≤ 1000000000 := by
  unfold bk
  have lt : t % bs.length < bs.length := Nat.mod_lt _ gd.n0
  have e : bs.getD (t % bs.length) 0 = bs[t % bs.length] := by simp [List.getD, lt]
  rw [e]; exact gd.b0 _ (List.getElem_mem lt)
theorem day_in {bs ds : List Int} {life : Int} (gd : Good bs ds) (l0 : 1 ≤ life) (l1 : life ≤ 30) (t : Nat) : 0 ≤ dayS bs ds (keepL bs life) t ∧ dayS bs ds (keepL bs life) t ≤ 29000000000 := by
  have cm : CoM bs ds (keepL bs life) := ⟨gd, keepL_len, fun _ => keepL_nn gd.b0⟩
  refine ⟨dayS_nn cm t, ?_⟩
  have e := dayS_round cm (t / bs.length) (t % bs.length) (Nat.le_of_lt (Nat.mod_lt _ gd.n0))
  have et : t / bs.length * bs.length + t % bs.length = t := by rw [Nat.mul_comm]; exact Nat.div_add_mod t bs.length
  rw [et] at e
  rw [e]
  have fs := full_small cm l0 l1
  cases t % bs.length with
  | zero =>
    show st bs ds (keepL bs life) _ ≤ _
    by_cases z : ((t / bs.length : Nat) : Int) = 0
    · rw [z, st_zero]; decide
    · rw [st_pos z]; omega
  | succ i =>
    have a := stkAt_top (bs := bs) (ds := ds) (ks := keepL bs life) (s := st bs ds (keepL bs life) ((t / bs.length : Nat) : Int)) (i := i)
    refine Int.le_trans a ?_
    by_cases hi : i < bs.length
    · have e2 : (keepL bs life).getD i 0 = keepAt bs life i := by
        unfold keepL
        simp [List.getD, hi]
      rw [e2]; exact keepAt_le gd.b0 l0 l1
    · have e2 : (keepL bs life).getD i 0 = 0 := by
        have : (keepL bs life).length ≤ i := by rw [keepL_len]; omega
        simp [List.getD, List.getElem?_eq_none this]
      rw [e2]; decide
theorem g_small {bs ds : List Int} {life : Int} {word : Str} {g : GK} (gd : Good bs ds) (l0 : 1 ≤ life) (l1 : life ≤ 30) (hw : WordIs word g) (t : Nat) : -100000000000 ≤ g bs ds t life ∧ g bs ds t life ≤ 100000000000 := by
  have a := dm_in gd t
  have b := bk_in gd t
  have c := day_in gd l0 l1 t
  have c2 := day_in gd l0 l1 (t + 1)
  rcases hw with ⟨_, rfl⟩ | ⟨_, rfl⟩ | ⟨_, rfl⟩
  · unfold gS solS misS; omega
  · unfold gT thrS solS misS; omega
  · unfold gD; omega
/-! ### an observation within a call -/
theorem obs_ext {H H' : Hp} {o F A : Addr} {bs ds : List Int} {bl : List (Addr × Int)} {rl : List (Addr × Rec)} (e : ExtN H H') (x : ObsAt K Z H o bs ds F A bl rl) : ObsAt K Z H' o bs ds F A bl rl :=
  ⟨let ⟨dx, y⟩ := x.inst; ⟨dx, e _ _ y (fun _ z => nomatch z)⟩, x.cl, x.n1, x.n2, e _ _ x.hF (fun _ z => nomatch z), e _ _ x.hA (fun _ z => nomatch z), fun y hy => let ⟨i, z⟩ := x.bak y hy; ⟨i, bak_ext (extN_wn e) z⟩, fun y hy => e _ _ (x.rc y hy) (fun _ z => nomatch z), x.gd, x.nb, x.nr⟩
def ObPost (K : PySem.W.Frag) (Z : Ad) (L : Addr → Prop) (r : Addr) (N : Addr → Prop) (o : Addr) (bs ds : List Int) (A : Addr) (bl : List (Addr × Int)) (rl : List (Addr × Rec)) (rc : Rec) (H H' : Hp) : Prop :=
  ∃ F' ro, ObsAt K Z (wn H' (fun b => Mr L r b ∨ N b)) o bs ds F' A bl (rl ++ [(ro, rc)]) ∧ H' r = some (.lst [.int (bl.length : Nat)]) ∧ ∀ b u, H b = some u → b ≠ o → b ≠ A → b ≠ r → H' b = some u
def sp_ob (K : PySem.W.Frag) (Z : Ad) (L : Addr → Prop) (r : Addr) (N : Addr → Prop) (o : Addr) (bs ds : List Int) (A : Addr) (bl : List (Addr × Int)) (rl : List (Addr × Rec)) (rc : Rec) : Sp := fun vs H Q E => vs = [] ∧ (bl = [] → ∀ H', Ex H H' → E (.ref Z.c_Contradiction) none H') ∧ (bl ≠ [] → ∀ H', ObPost K Z L r N o bs ds A bl rl rc H H' → Q .non H')
theorem cl_off {X : Cx} {σ : L2.St} {H Hz : Hp} {N : Addr → Prop} {scope : Scope} (z : Frz X σ H Hz N) (hfree : ∀ y ∈ scope.names, y.2 = .free → X.env.scope.names.lookup y.1 = some .cell ∨ X.env.scope.names.lookup y.1 = some .free) : ∀ y c, (cloFrom X.env.cells scope.names []).lookup y = some c → N c := fun y c e =>
  (z.iff c).mpr ⟨y, clo_cm (fun y hy e => z.has y.1 (hfree y hy e)) e⟩
theorem ob_body {X : Cx} {σ0 σ : L2.St} {H H7 Hz : Hp} {r o F A : Addr} {L N Cl : Addr → Prop} {bs ds : List Int} {bl : List (Addr × Int)} {rl : List (Addr × Rec)} {word : Str} {g : GK} {day : Nat} {num : Int} {Q : VK} {E : XK} {t : TA} {j : Nat}
    (fz : Frz X σ0 H7 Hz N) (eS : Ex Hz H) (x0 : Ex H7 (wn H Cl)) (hCl : ∀ b, Cl b → N b) (kL : ∀ b, L b → H7 b ≠ none) (hr : H7 r = some (.lst [])) (hO : ObsAt K Z (wn H7 (Mr L r)) o bs ds F A bl rl) (hr1 : rl.length < 1000) (hw : WordIs word g) (hd : (day : Int) ≤ 1000000000000000000) (hn : num.natAbs < 10 ^ 30)
    (hbad : agr (g bs ds day) num bl = [] → ∀ H', Ex H H' → E (.ref Z.c_Contradiction) none H') (hgood : agr (g bs ds day) num bl ≠ [] → ∀ H', ObPost K Z L r N o bs ds A (agr (g bs ds day) num bl) rl (word, (day : Int), num) H H' → Q .non H')
    (ho : σ[j]? = some (some (.ref r))) (ht : EvA t σ (wn H Cl) [.ref o, .str word, .int (day : Int), .int num]) :
    tBM K "list" rAppend (tVar j) (tCons (tCall (spOr (sp_lseen K Z) (sp_lseenX K Z)) [] (fun c d H3 => (∀ b, Cl b → H3 b = none) → E c d (mixN Cl H H3)) t) tNil) σ (wn H Cl) (fun v H3 => (∀ b, Cl b → H3 b = none) → Q v (mixN Cl H H3)) := by
  have hrb : wn H Cl r = some (.lst []) := x0 _ _ hr
  obtain ⟨dx, hi⟩ := hO.inst
  have nMo := (wn_some hi).1
  have nMA := (wn_some hO.hA).1
  have nro : r ≠ o := fun z => nMo (.inl z.symm)
  have nrA : r ≠ A := fun z => nMA (.inl z.symm)
  refine ⟨_, ho, Or.inl ⟨rfl, [], sq_of hrb⟩, ?_⟩
  refine ht _ (Ex.refl _) _ fun H1 e1 => ?_
  by_cases z : agr (g bs ds day) num bl = []
  · exact .inr ⟨o, word, g, day, num, bs, ds, F, A, bl, rl, rfl, hw, hd, hO.mono ((wn_ex.trans x0).trans e1), z, hn, fun H' e hcl => hbad z _ (mix_over (e1.trans e))⟩
  · refine .inl ⟨o, word, g, day, num, bs, ds, F, A, bl, rl, (fun b => Mr L r b ∨ (N b ∧ ¬ Cl b)), rfl, hw, hd, hO.mono (fun b u q => ?_), hr1, fun b hb q => ?_, z, fun H3 ⟨F', ro, hO3, fr⟩ => ?_⟩
    · obtain ⟨m, q1⟩ := wn_some q
      rw [wn_ni fun y => y.elim m fun y => by rw [fz.off _ y.1] at q1; cases q1]
      exact e1 _ _ (x0 _ _ q1)
    · have k : ∀ {u : HO}, wn H Cl b = some u → False := fun y => by rw [e1 _ _ y] at q; cases q
      rcases hb with (y | y) | ⟨n, c⟩
      · rw [y] at k; exact k hrb
      · cases y7 : H7 b with
        | none => exact kL b y y7
        | some u => exact k (x0 _ _ y7)
      · obtain ⟨ob, v, y, _⟩ := fz.inn b n
        exact k ((wn_ni c).trans (eS _ _ y))
    · have hr3 : H3 r = some (.lst []) := fr _ _ (e1 _ _ hrb) nro nrA
      refine ⟨r, [], .int ((agr (g bs ds day) num bl).length : Nat), rfl, rfl, hr3, sz_lt (by decide), fun hcl => hgood z _ ⟨F', ro, hO3.mono (fun b u q => ?_), ?_, fun b u q n1 n2 n3 => ?_⟩⟩
      · obtain ⟨m, q1⟩ := wn_some q
        have nr : b ≠ r := fun y => m (.inl (.inl y))
        have q2 : upd H3 r (.lst ([] ++ [.int ((agr (g bs ds day) num bl).length : Nat)])) b = some u := (upd_ne nr).trans q1
        have nc : ¬ Cl b := fun y => by rw [hcl b y] at q2; cases q2
        rw [wn_ni fun y => m (y.imp id fun n => ⟨n, nc⟩), mix_ni nc]
        exact q2
      · have nc : ¬ Cl r := fun y => by have w := hcl r y; rw [upd_same] at w; cases w
        rw [mix_ni nc]; exact upd_same
      · by_cases c : Cl b
        · rw [mix_in c]; exact q
        · rw [mix_ni c, upd_ne n3]
          exact fr _ _ (e1 _ _ ((wn_ni c).trans q)) n1 n2
theorem q_obsE {X : Cx} {σ : L2.St} {G : Hp} {T : List NTab} {mk : Addr → LF} {tz : TS} {D : Ends} {i : Nat} {h l r o F A : Addr} {L : Addr → Prop} {bs ds : List Int} {bl bl' : List (Addr × Int)} {rl : List (Addr × Rec)} {rc : Rec} (hT : TabsN T G) (hs : HS G h l) (hhl : ∀ b, hl h l b → L b) (nr : ¬ hl h l r) (hr : G r = some (.lst [])) (hO : ObsAt K Z (wn G (Mr L r)) o bs ds F A bl rl)
    (lam : ∀ f c' H7 Hz N, ExtN G H7 → H7 f = some (LamO f (mk c')) → H7 c' = some (CodeO c' (mk c').qual) → Frz X σ H7 Hz N → Cal P w K mg base (L2.CX P w) 11 f (sp_ob K Z L r N o bs ds A bl' rl rc) Hz)
    (fin : ∀ p G', TabsN T G' → ((bl' = [] ∧ ExtN G G' ∧ G' p = some (.tup [.str "contradiction"])) ∨ (bl' ≠ [] ∧ ∃ F' ro, HS G' h l ∧ ObsAt K Z (wn G' (Mr L r)) o bs ds F' A bl' (rl ++ [(ro, rc)]) ∧ G' r = some (.lst [.int (bl'.length : Nat)]) ∧ (∀ b u, G b = some u → (∀ ps, u ≠ .tbl ps) → b ≠ o → b ≠ A → b ≠ r → G' b = some u) ∧ G' p = some (.tup [.str "none"]))) → tz D (σ.set i (some (.ref p))) G') :
    tSeq (tAsg (tCallZ X (sp_err P w K mg base Z) [] (tCons (tLamE T mk) tNil)) (gName i)) tz D σ G := by
  have bad : bl' = [] → ∀ p G', ExtN G G' → TabsN T G' → G' p = some (.tup [.str "contradiction"]) → tz D (σ.set i (some (.ref p))) G' := fun z p G' a b c => fin p G' b (.inl ⟨z, a, c⟩)
  have good : bl' ≠ [] → ∀ p G' F' ro, HS G' h l → TabsN T G' → ObsAt K Z (wn G' (Mr L r)) o bs ds F' A bl' (rl ++ [(ro, rc)]) → G' r = some (.lst [.int (bl'.length : Nat)]) → (∀ b u, G b = some u → (∀ ps, u ≠ .tbl ps) → b ≠ o → b ≠ A → b ≠ r → G' b = some u) → G' p = some (.tup [.str "none"]) → tz D (σ.set i (some (.ref p))) G' := fun z p G' F' ro a b c d e f => fin p G' b (.inr ⟨z, F', ro, a, c, d, e, f⟩)
  clear fin
  refine ⟨hT, fun f c' H7 eN _ T7 hf0 hf hc Hz N fz => ?_⟩
  have C := lam f c' H7 Hz N eN hf hc fz
  have nN : ∀ {b : Addr} {u : HO}, H7 b = some u → ¬ N b := fun e n => by rw [fz.off _ n] at e; cases e
  have zx : ∀ {b : Addr} {u : HO}, H7 b = some u → Hz b = some u := fun e => fz.ex_ _ _ e
  obtain ⟨dx, hi⟩ := hO.inst
  have nMo := (wn_some hi).1
  have nMA := (wn_some hO.hA).1
  have hi7 := eN _ _ (wn_some hi).2 (fun _ z => nomatch z)
  have hA7 := eN _ _ (wn_some hO.hA).2 (fun _ z => nomatch z)
  have hr7 := eN _ _ hr (fun _ z => nomatch z)
  refine ⟨f, _, Hz, rfl, C, Ex.refl _, fun Q1 E1 q1 e1 => ⟨rfl, fun z H' ex => e1 _ _ _ (.inr (.inr (.inr ⟨rfl, rfl, fun p H2 np e2 h2 => ?_⟩))), fun z H' ⟨F', ro, hO', hr', fr⟩ => q1 _ _ fun p H2 np e2 h2 => ?_⟩⟩
  · have hk : ∀ {b : Addr} {u : HO}, H7 b = some u → wn H2 N b = some u := fun e => (wn_ni (nN e)).trans (e2 _ _ (ex _ _ (zx e)))
    have np' : ¬ N p := fun n => by
      obtain ⟨ob, v, e, _⟩ := fz.inn p n
      rw [e2 _ _ (ex _ _ e)] at h2; cases h2
    exact bad z p (wn H2 N) (fun b u e n => hk (eN b u e n)) (T7.ext fun b u e => hk e) ((wn_ni np').trans h2)
  · have keep : ∀ {b : Addr} {u : HO}, H7 b = some u → b ≠ o → b ≠ A → b ≠ r → wn H2 N b = some u := fun e n1 n2 n3 => (wn_ni (nN e)).trans (e2 _ _ (fr _ _ (zx e) n1 n2 n3))
    have np' : ¬ N p := fun n => by
      obtain ⟨ob, v, e, _⟩ := fz.inn p n
      have m1 : p ≠ o := fun z => by rw [z, zx hi7] at e; cases e
      have m2 : p ≠ A := fun z => by rw [z, zx hA7] at e; cases e
      have m3 : p ≠ r := fun z => by rw [z, zx hr7] at e; cases e
      rw [fr _ _ e m1 m2 m3] at np; cases np
    refine good z p (wn H2 N) F' ro ?_ (fun q hq => ?_) (hO'.mono fun b u q => ?_) ((wn_ni (nN hr7)).trans (e2 _ _ hr')) (fun b u q n n1 n2 n3 => keep (eN b u q n) n1 n2 n3) ((wn_ni np').trans h2)
    · obtain ⟨m, cells, idx, h1, h2', rest⟩ := hs_ext eN hs
      refine ⟨m, cells, idx, keep h1 (fun z => nMo (.inr (hhl _ (.inl z.symm)))) (fun z => nMA (.inr (hhl _ (.inl z.symm)))) (fun z => nr (.inl z.symm)), keep h2' (fun z => nMo (.inr (hhl _ (.inr z.symm)))) (fun z => nMA (.inr (hhl _ (.inr z.symm)))) (fun z => nr (.inr z.symm)), rest⟩
    · obtain ⟨ps, a1, a2, a3⟩ := T7 q hq
      have kk : ∀ {b : Addr} {u : HO}, H7 b = some u → (∀ ys, u ≠ .lst ys) → (∀ C dx fs, u ≠ .ins C dx fs) → wn H2 N b = some u := fun {b u} e n1 n2 => keep e (fun z => by rw [z, hi7] at e; exact n2 _ _ _ (Option.some.inj e).symm) (fun z => by rw [z, hA7] at e; exact n1 _ (Option.some.inj e).symm) (fun z => by rw [z, hr7] at e; exact n1 _ (Option.some.inj e).symm)
      refine ⟨ps, kk a1 (fun _ z => nomatch z) (fun _ _ _ z => nomatch z), a2, fun pos cv hcv => ?_⟩
      obtain ⟨c, b1, b2⟩ := a3 pos cv hcv
      exact ⟨c, b1, kk b2 (fun _ z => by unfold CodeO at z; cases z) (fun _ _ _ z => by unfold CodeO at z; cases z)⟩
    · obtain ⟨m, q1⟩ := wn_some q
      rw [wn_ni fun z => m (.inl z), wn_ni fun z => m (.inr z)]
      exact e2 _ _ q1
end Sw
namespace Sw
open PySem PySem.Spec PyProof.Rows L2 Evl LamX NdefX
local macro_rules | `(tactic| walk_at "ev") => `(tactic| first
  | exact ev_c
  | exact ev_var rfl
  | ((with_reducible show Ev (tCB rMax2 _) _ _ _); exact ev_maxi (by walk_at "ev") (by walk_at "ev"))
  | ((with_reducible show Ev (tCB rMn _) _ _ _); exact ev_min2 (by walk_at "ev") (by walk_at "ev"))
  | ((with_reducible show Ev (tUn _ _) _ _ _); exact ev_un (by walk_at "ev") ru_neg)
  | ((with_reducible show Ev (tFld _ _ _) _ _ _); exact ev_fldK (by walk_at "ev") (by assumption))
  | ((with_reducible show Ev (tOp (rI0 _) _ _) _ _ _); exact ev_op (by walk_at "ev") (by walk_at "ev") rv_I0)
  | ((with_reducible show Ev (tOp rEq _ _) _ _ _); exact ev_op (by walk_at "ev") (by walk_at "ev") (rv_eq rfl))
  | ((with_reducible show Ev (tOp rNe _ _) _ _ _); exact ev_op (by walk_at "ev") (by walk_at "ev") (rv_ne rfl)))

/-! ### records -/
def recV (c : Rec) : List V := [.str c.1, .int c.2.1, .int c.2.2]
def recD (c : Rec) : PyData := .tuple [.str c.1, .int c.2.1, .int c.2.2]
theorem recs_lay : ∀ {rs : List Rec}, (∀ x ∈ rs, PyData.strOk x.1 = true) → PyData.canLayAll0 (rs.map recD) = true
  | [], _ => rfl
  | c :: r, h => by
    have a := h c (by simp)
    have ih := recs_lay (rs := r) fun x hx => h x (by simp [hx])
    simp only [List.map_cons, PyData.canLayAll0, ih, recD, PyData.canLay0, a, Bool.and_true]
theorem recs_depth : ∀ rs : List Rec, PyData.depthAll (rs.map recD) ≤ 20
  | [] => by simp only [List.map_nil, PyData.depthAll]; decide
  | c :: r => by
    have ih := recs_depth r
    simp only [List.map_cons, PyData.depthAll, recD, PyData.depth] at ih ⊢
    omega
theorem recs_shaped {rs : List Rec} (h : ∀ x ∈ rs, PyData.strOk x.1 = true) : SeqAt.shaped (.list (rs.map recD)) = true := by
  have a := recs_lay h
  have b := recs_depth rs
  show (PyData.canLay0 (.list (rs.map recD)) && decide (PyData.depth (.list (rs.map recD)) ≤ 64)) = true
  rw [Bool.and_eq_true]
  refine ⟨by simp only [PyData.canLay0]; exact a, decide_eq_true ?_⟩
  simp only [PyData.depth]
  omega
theorem recs_same : ∀ rs : List Rec, PyData.eqvAll (rs.map recD) (rs.map recD) = true
  | [] => rfl
  | c :: r => by
    have ih := recs_same r
    simp only [List.map_cons, PyData.eqvAll, ih, recD, PyData.eqv, Bool.and_true]
    simp
section
variable {K : PySem.W.Frag} {H : Hp}
theorem dp_recs : ∀ {rl : List (Addr × Rec)}, (∀ x ∈ rl, SqT K H x.1 (recV x.2)) → DpAll K H (rl.map fun x => V.ref x.1) ((rl.map (·.2)).map recD)
  | [], _ => .nil
  | c :: r, h => .cons (.tup (h c (by simp)) (.cons (.str _) (.cons (.int _) (.cons (.int _) .nil)))) (dp_recs (rl := r) fun x hx => h x (by simp [hx]))
end
section
variable {K : PySem.W.Frag} {σ : L2.St} {H : Hp} {ta tb t1 t2 u1 u2 : TE} {R : Addr} {ns : List Int} {as bs : List (Addr × Rec)} {E : XK}
theorem ev_neRec (h1 : EvL ta σ H (as.map fun x => V.ref x.1)) (h2 : EvL tb σ H (bs.map fun x => V.ref x.1)) (ha : ∀ x ∈ as, SqT K H x.1 (recV x.2)) (hb : ∀ x ∈ bs, SqT K H x.1 (recV x.2)) (eq : as.map (·.2) = bs.map (·.2)) (ws : ∀ x ∈ bs.map (·.2), PyData.strOk x.1 = true) : Ev (tOp (rNeD K) ta tb) σ H (.bl false) := fun H1 e Q q =>
  h1 H1 e _ fun p H2 _ e2 x1 => h2 H2 (e.trans e2) _ fun r H3 _ e3 x2 => by
    have eA := (e.trans e2).trans e3
    have d1 := dp_recs (K := K) (H := H3) (rl := as) fun x hx => ex_t eA (ha x hx)
    rw [eq] at d1
    exact ⟨_, _, .lst (sq_of (e3 _ _ x1)) d1, .lst (sq_of x2) (dp_recs fun x hx => ex_t eA (hb x hx)), recs_shaped ws, recs_shaped ws, by
      have z : PyData.eqv (.list ((bs.map (·.2)).map recD)) (.list ((bs.map (·.2)).map recD)) = true := recs_same _
      rw [z]; exact q H3 (e2.trans e3)⟩
theorem alk_int1 {i : Int} : Alk K H 1 (.int i) (.int i) := .inl (.inl ⟨_, rfl, rfl⟩)
theorem alk_rec {a b : Addr} {c : Rec} (h1 : SqT K H a (recV c)) (h2 : SqT K H b (recV c)) : Alk K H 1 (.ref a) (.ref b) :=
  .inr ⟨a, b, recV c, recV c, rfl, rfl, .inl ⟨h1, h2⟩, rfl, by show 3 ≤ 1000; decide, fun j u v hu hv => by
    have e : u = v := Option.some.inj (hu.symm.trans hv)
    subst e
    match j, hu with
    | 0, hu => cases hu; exact .inr (.inr ⟨_, rfl, rfl⟩)
    | 1, hu => cases hu; exact .inl ⟨_, rfl, rfl⟩
    | 2, hu => cases hu; exact .inl ⟨_, rfl, rfl⟩⟩
theorem ev_alk9 (h1 : EvU t1 σ H (ns.map V.int)) (h2 : EvL t2 σ H (as.map fun x => V.ref x.1)) (h3 : EvU u1 σ H (ns.map V.int)) (h4 : Ev u2 σ H (.ref R)) (hR : SqL K H R (bs.map fun x => V.ref x.1)) (ha : ∀ x ∈ as, SqT K H x.1 (recV x.2)) (hb : ∀ x ∈ bs, SqT K H x.1 (recV x.2)) (eq : as.map (·.2) = bs.map (·.2)) (l1 : ns.length ≤ 1000) (l2 : as.length ≤ 1000) :
    Ev (tCall (sp_alike K 3) [] E (tCons (tLst (tCons t1 (tCons t2 tNil))) (tCons (tLst (tCons u1 (tCons u2 tNil))) tNil))) σ H (.bl true) := fun H1 e Q q =>
  h1 H1 e _ fun p1 H2 _ e2 x1 => h2 H2 (e.trans e2) _ fun p2 H3 _ e3 x2 => ⟨by show 2 ≤ sizeLine; decide, fun t ht => by
    have e4 := Ex.new (o := .lst [.ref p1, .ref p2]) ht
    have e14 := (e2.trans e3).trans e4
    refine h3 _ (e.trans e14) _ fun p3 H5 _ e5 x3 => h4 H5 ((e.trans e14).trans e5) _ fun H6 e6 => ⟨by show 2 ≤ sizeLine; decide, fun t2 ht2 => ?_⟩
    have e7 := Ex.new (o := .lst [.ref p3, .ref R]) ht2
    have e57 := (e5.trans e6).trans e7
    have eA := (e.trans e14).trans e57
    refine ⟨.ref t, .ref t2, rfl, .inr ⟨t, t2, [.ref p1, .ref p2], [.ref p3, .ref R], rfl, rfl, .inr ⟨sq_of (e57 _ _ upd_same), sq_of upd_same⟩, rfl, by show 2 ≤ 1000; decide, fun j u v hu hv => ?_⟩, fun H9 e9 => q H9 (((e14.trans e57)).trans e9)⟩
    match j, hu, hv with
    | 0, hu, hv =>
      cases hu; cases hv
      exact .inr ⟨p1, p3, _, _, rfl, rfl, .inl ⟨st_of (((e3.trans e4).trans e57) _ _ x1), st_of ((e6.trans e7) _ _ x3)⟩, rfl, by rw [List.length_map]; exact l1, fun i u v hu hv => by
        have e : u = v := Option.some.inj (hu.symm.trans hv)
        subst e
        obtain ⟨rfl, _⟩ := at_map hu
        exact alk_int1⟩
    | 1, hu, hv =>
      cases hu; cases hv
      have ln : as.length = bs.length := by
        have z := congrArg List.length eq
        simpa using z
      exact .inr ⟨p2, R, _, _, rfl, rfl, .inr ⟨sq_of ((e4.trans e57) _ _ x2), ex_l eA hR⟩, by rw [List.length_map, List.length_map]; exact ln, by rw [List.length_map]; exact l2, fun i u v hu hv => by
        rw [List.getElem?_map] at hu hv
        obtain ⟨x, hx, rfl⟩ := Option.map_eq_some_iff.mp hu
        obtain ⟨y, hy, rfl⟩ := Option.map_eq_some_iff.mp hv
        have ec : x.2 = y.2 := by
          have z := congrArg (fun l => l[i]?) eq
          simp only [List.getElem?_map, hx, hy, Option.map_some] at z
          exact Option.some.inj z
        have a1 := ex_t eA (ha x (List.mem_of_getElem? hx))
        rw [ec] at a1
        exact alk_rec a1 (ex_t eA (hb y (List.mem_of_getElem? hy)))⟩⟩
end
theorem agr_map {g : Int → Int} {num : Int} {bl : List (Addr × Int)} : (agr g num bl).map (·.2) = (bl.map (·.2)).filter fun y => decide (g y = num) := by
  unfold agr
  rw [List.filter_map]; rfl
theorem agr_nil {g : Int → Int} {num : Int} {bl el : List (Addr × Int)} (hL : el.map (·.2) = bl.map (·.2)) : agr g num el = [] ↔ agr g num bl = [] := by
  have e : (agr g num el).map (·.2) = (agr g num bl).map (·.2) := by rw [agr_map, agr_map, hL]
  constructor
  · intro z
    rw [z] at e
    exact List.map_eq_nil_iff.mp e.symm
  · intro z
    rw [z] at e
    exact List.map_eq_nil_iff.mp e
/-! ### the law's state -/
def hlR (h l R : Addr) : Addr → Prop := fun b => hl h l b ∨ b = R
def M4 (h l o A R : Addr) : Addr → Prop := fun b => hl h l b ∨ b = o ∨ b = A ∨ b = R
structure St9 (K : PySem.W.Frag) (Z : Ad) (T : List NTab) (h l o A R tone : Addr) (bs ds : List Int) (life : Int) (X : Addr) (el : List (Addr × Int)) (F : Addr) (bl : List (Addr × Int)) (rl rr : List (Addr × Rec)) (n : Nat) (H : Hp) : Prop where
  hs : HS H h l
  tb : TabsN T H
  hO : ObsAt K Z (wn H (hlR h l R)) o bs ds F A bl rl
  hR : wn H (hl h l) R = some (.lst (rr.map fun x => V.ref x.1))
  nRA : R ≠ A
  hrr : ∀ x ∈ rr, wn H (M4 h l o A R) x.1 = some (.tup (recV x.2))
  eqr : rr.map (·.2) = rl.map (·.2)
  ws : ∀ x ∈ rl.map (·.2), PyData.strOk x.1 = true
  hX : wn H (M4 h l o A R) X = some (.lst (el.map fun x => V.ref x.1))
  hE : ∀ x ∈ el, ∃ i, BakAt K Z (wn H (M4 h l o A R)) x.1 bs ds x.2 i
  hT : ∃ i, BakAt K Z (wn H (M4 h l o A R)) tone bs ds life i
  hL : el.map (·.2) = bl.map (·.2)
  ne : bl ≠ []
  last : rl = [] ∨ ∃ rl0 ro word g day num, rl = rl0 ++ [(ro, (word, ((day : Nat) : Int), num))] ∧ WordIs word g ∧ ((day : Nat) : Int) ≤ 1000000000000000000 ∧ num.natAbs < 10 ^ 30 ∧ ∀ x ∈ bl, g bs ds day x.2 = num
  nrl : rl.length ≤ n
section
variable {K : PySem.W.Frag} {Z : Ad} {T : List NTab} {h l o A R tone X F : Addr} {bs ds : List Int} {life : Int} {el bl : List (Addr × Int)} {rl rr : List (Addr × Rec)} {n : Nat} {H H' : Hp}
theorem St9.step (s : St9 K Z T h l o A R tone bs ds life X el F bl rl rr n H) (hs' : HS H' h l) (tb' : TabsN T H') (e : ExtN (wn H (hl h l)) (wn H' (hl h l))) : St9 K Z T h l o A R tone bs ds life X el F bl rl rr n H' := by
  have eM : ExtN (wn H (M4 h l o A R)) (wn H' (M4 h l o A R)) := fun b u q n => by
    obtain ⟨m, q1⟩ := wn_some q
    rw [wn_ni m]
    exact (wn_some (e b u ((wn_ni fun z => m (.inl z)).trans q1) n)).2
  have eR : ExtN (wn H (hlR h l R)) (wn H' (hlR h l R)) := fun b u q n => by
    obtain ⟨m, q1⟩ := wn_some q
    rw [wn_ni m]
    exact (wn_some (e b u ((wn_ni fun z => m (.inl z)).trans q1) n)).2
  exact ⟨hs', tb', obs_ext eR s.hO, e _ _ s.hR (fun _ z => nomatch z), s.nRA, fun x hx => eM _ _ (s.hrr x hx) (fun _ z => nomatch z), s.eqr, s.ws, eM _ _ s.hX (fun _ z => nomatch z), fun x hx => let ⟨i, y⟩ := s.hE x hx; ⟨i, bak_ext eM y⟩, let ⟨i, y⟩ := s.hT; ⟨i, bak_ext eM y⟩, s.hL, s.ne, s.last, s.nrl⟩
theorem St9.mono (s : St9 K Z T h l o A R tone bs ds life X el F bl rl rr n H) (e : Ex H H') : St9 K Z T h l o A R tone bs ds life X el F bl rl rr n H' := s.step (s.hs.mono e) (s.tb.ext e) (extN_of (wn_mono e))
theorem St9.dr (s : St9 K Z T h l o A R tone bs ds life X el F bl rl rr n H) (d : Dr h l H H') : St9 K Z T h l o A R tone bs ds life X el F bl rl rr n H' := s.step d.hs (tabs_dr s.hs d s.tb) (extN_of d.ex)
theorem St9.ext (s : St9 K Z T h l o A R tone bs ds life X el F bl rl rr n H) (e : ExtN H H') (t : TabsN T H') : St9 K Z T h l o A R tone bs ds life X el F bl rl rr n H' := s.step (hs_ext e s.hs) t (extN_wn e)
theorem St9.le {m : Nat} (s : St9 K Z T h l o A R tone bs ds life X el F bl rl rr n H) (h0 : n ≤ m) : St9 K Z T h l o A R tone bs ds life X el F bl rl rr m H := ⟨s.hs, s.tb, s.hO, s.hR, s.nRA, s.hrr, s.eqr, s.ws, s.hX, s.hE, s.hT, s.hL, s.ne, s.last, Nat.le_trans s.nrl h0⟩
/-- an observation is accepted, the bakeries that agree are kept -/
theorem St9.see (s : St9 K Z T h l o A R tone bs ds life X el F bl rl rr n H) {S : Hp} {Y F' ro r : Addr} {word : Str} {g : GK} {day : Nat} {num : Int} (hw : WordIs word g) (hd : (day : Int) ≤ 1000000000000000000) (hn : num.natAbs < 10 ^ 30) (hne : agr (g bs ds day) num bl ≠ []) (hs' : HS S h l) (tb' : TabsN T S)
    (hO' : ObsAt K Z (wn S (hlR h l R)) o bs ds F' A (agr (g bs ds day) num bl) (rl ++ [(ro, (word, (day : Int), num))])) (hR' : S R = some (.lst ((rr ++ [(r, (word, (day : Int), num))]).map fun x => V.ref x.1))) (hr : S r = some (.tup (recV (word, (day : Int), num)))) (nr : ¬ M4 h l o A R r)
    (hY : S Y = some (.lst ((agr (g bs ds day) num el).map fun x => V.ref x.1))) (nY : ¬ M4 h l o A R Y) (fr : ∀ b u, H b = some u → (∀ ps, u ≠ .tbl ps) → b ≠ o → b ≠ A → b ≠ R → S b = some u) :
    St9 K Z T h l o A R tone bs ds life Y (agr (g bs ds day) num el) F' (agr (g bs ds day) num bl) (rl ++ [(ro, (word, (day : Int), num))]) (rr ++ [(r, (word, (day : Int), num))]) (n + 1) S := by
  have eM : ExtN (wn H (M4 h l o A R)) (wn S (M4 h l o A R)) := fun b u q n => by
    obtain ⟨m, q1⟩ := wn_some q
    rw [wn_ni m]
    exact fr b u q1 n (fun z => m (.inr (.inl z))) (fun z => m (.inr (.inr (.inl z)))) (fun z => m (.inr (.inr (.inr z))))
  refine ⟨hs', tb', hO', (wn_ni (wn_some s.hR).1).trans hR', s.nRA, fun x hx => ?_, by rw [List.map_append, List.map_append, s.eqr]; rfl, fun x hx => ?_, (wn_ni nY).trans hY, fun x hx => let ⟨i, y⟩ := s.hE x (List.mem_filter.mp hx).1; ⟨i, bak_ext eM y⟩, let ⟨i, y⟩ := s.hT; ⟨i, bak_ext eM y⟩, by rw [agr_map, agr_map, s.hL], hne, .inr ⟨rl, ro, word, g, day, num, rfl, hw, hd, hn, fun x hx => ?_⟩, by rw [List.length_append, List.length_singleton]; have := s.nrl; omega⟩
  · rcases List.mem_append.mp hx with z | z
    · exact eM _ _ (s.hrr x z) (fun _ z => nomatch z)
    · rw [List.mem_singleton.mp z]; exact (wn_ni nr).trans hr
  · rw [List.map_append] at hx
    rcases List.mem_append.mp hx with z | z
    · exact s.ws x z
    · have e : x = (word, (day : Int), num) := by simpa using z
      rw [e]
      show PyData.strOk word = true
      rcases hw with ⟨rfl, _⟩ | ⟨rfl, _⟩ | ⟨rfl, _⟩ <;> decide +kernel
  · simpa using (List.mem_filter.mp hx).2
end
end Sw
namespace Sw
open PySem PySem.Spec PyProof.Rows L2 Evl LamX NdefX
local macro_rules | `(tactic| walk_at "ev") => `(tactic| first
  | exact ev_c
  | exact ev_var rfl
  | ((with_reducible show Ev (tCB rMax2 _) _ _ _); exact ev_maxi (by walk_at "ev") (by walk_at "ev"))
  | ((with_reducible show Ev (tCB rMn _) _ _ _); exact ev_min2 (by walk_at "ev") (by walk_at "ev"))
  | ((with_reducible show Ev (tUn _ _) _ _ _); exact ev_un (by walk_at "ev") ru_neg)
  | ((with_reducible show Ev (tFld _ _ _) _ _ _); exact ev_fldK (by walk_at "ev") (by assumption))
  | ((with_reducible show Ev (tOp (rI0 _) _ _) _ _ _); exact ev_op (by walk_at "ev") (by walk_at "ev") rv_I0)
  | ((with_reducible show Ev (tOp rEq _ _) _ _ _); exact ev_op (by walk_at "ev") (by walk_at "ev") (rv_eq rfl))
  | ((with_reducible show Ev (tOp rNe _ _) _ _ _); exact ev_op (by walk_at "ev") (by walk_at "ev") (rv_ne rfl)))

def sp_lawT (K : PySem.W.Frag) (tb : Addr) : Sp := fun vs H Q _ => ∃ (a : Addr) (ns : List Int), vs = [.ref a] ∧ SqL K H a (ns.map V.int) ∧ ns.length ≤ 63 ∧ H tb = some (.tbl #[]) ∧ ∀ H', Q (.bl true) H'
def nmLaw : Nat → Nat → Str := fun _ _ => "law.<locals>." ++ "<lambda>"
section
variable {K : PySem.W.Frag} {Z : Ad} {σ : L2.St} {H H' : Hp} {ta tb tc tm te tl : TE} {h l o A R X F : Addr} {xs ys : List V} {D : Ends} {tu tz tw : TS} {bs ds : List Int} {v : V}
theorem q_ifK {M : L2.St → Hp → Prop} {tt : TT} {b : Bool} (h : EvT tt σ H b) (fin : ∀ σ' H', M σ' H' → tz D σ' H') (h1 : b = true → ∀ H1, Ex H H1 → (∀ σ' H', M σ' H' → tz D σ' H') → tu { D with nx := tz D } σ H1)
    (h2 : b = false → ∀ H1, Ex H H1 → (∀ σ' H', M σ' H' → tz D σ' H') → tw { D with nx := tz D } σ H1) : tSeq (tIfS tt tu tw) tz D σ H := q_if h (fun hb H1 e => h1 hb H1 e fin) fun hb H1 e => h2 hb H1 e fin
/-- an observer, a list, a bakery -/
theorem q_obs3 {M : Addr → Prop} {i1 i2 i3 : Nat} (hm : ∀ Q : VK, (∀ p H2 F A bl, H p = none → H A = none → Ex H H2 → ObsAt K Z (wn H2 M) p bs ds F A bl [] → bl.map (·.2) = lives → Q (.ref p) H2) → tm σ H Q) (hx : ∀ G, EvL ta σ G []) (hc : ∀ G, Ex H G → Ev tc σ G v)
    (k : ∀ o H1 F A bl R H2, H o = none → H A = none → Ex H H1 → ObsAt K Z (wn H1 M) o bs ds F A bl [] → bl.map (·.2) = lives → H1 R = none → Ex H1 H2 → H2 R = some (.lst []) → tz D (((σ.set i1 (some (.ref o))).set i2 (some (.ref R))).set i3 (some v)) H2) :
    tSeq (tAsg (tTup (tCons tm (tCons ta (tCons tc tNil)))) (gTup K 3 (gCons (gName i1) (gCons (gName i2) (gCons (gName i3) gNil))))) tz D σ H := hm _ fun o H1 F A bl no nA e1 hO hl => hx H1 H1 (Ex.refl _) _ fun R H2 nR e2 hR => hc H2 (e1.trans e2) H2 (Ex.refl _) _ fun H3 e3 => ⟨by show 3 ≤ sizeLine; decide, fun r hr => by
    have e4 := Ex.new (o := .tup [.ref o, .ref R, v]) hr
    exact ⟨r, [.ref o, .ref R, v], rfl, st_of upd_same, rfl, _, _, rfl, _, _, rfl, _, _, rfl, rfl, k o H1 F A bl R _ no nA e1 hO hl nR ((e2.trans e3).trans e4) (e4 _ _ (e3 _ _ hR))⟩⟩
theorem s_seenIf {t : TA} {u : TT} {N : Addr → Prop} {bl : List (Addr × Int)} {rl : List (Addr × Rec)} {word : Str} {g : GK} {day : Nat} {num : Int} {E : XK} (ht : EvA t σ H [.ref o, .str word, .int (day : Int), .int num]) (hw : WordIs word g) (hd : (day : Int) ≤ 1000000000000000000) (hO : ObsAt K Z (wn H N) o bs ds F A bl rl) (hr1 : rl.length < 1000) (hN : ∀ b, N b → H b ≠ none) (hne : agr (g bs ds day) num bl ≠ [])
    (k : ∀ H2, SeenAt K Z H o bs ds A (agr (g bs ds day) num bl) rl N (word, (day : Int), num) H2 → Ev tl σ H2 (.int ((agr (g bs ds day) num bl).length : Nat)) ∧ EvT u σ H2 false ∧ ∀ H3, Ex H2 H3 → D.nx σ H3) :
    tIfS (tOr (tTest (tOp rNe (tCall (sp_lseen K Z) [] E t) tl)) u) tu tNext D σ H :=
  ht H (Ex.refl _) _ fun H1 e1 => ⟨o, word, g, day, num, bs, ds, F, A, bl, rl, N, rfl, hw, hd, hO.mono (wn_mono e1), hr1, fun b hb z => hN b hb (fresh_back e1 z), hne, fun H2 hs => by
    obtain ⟨a, b, c⟩ := k H2 (hs.from e1)
    have go : tIfS (tOr (tTest (tOp rNe (tC (.int ((agr (g bs ds day) num bl).length : Nat))) tl)) u) tu tNext D σ H2 := s_when (b := false) (et_is (et_or (et_test (ev_op ev_c a (rv_ne rfl))) fun _ => b) (by simp)) (fun hb => nomatch hb) fun _ H3 e3 => c H3 e3
    exact go⟩
theorem q_un3L {i1 i2 i3 : Nat} {x y z : V} {p : Addr} (h : Ev te σ H (.ref p)) (hp : SqT K H p [x, y, z]) (c : ∀ H1, Ex H H1 → tz D (((σ.set i1 (some x)).set i2 (some y)).set i3 (some z)) H1) : tSeq (tAsg te (gTup K 3 (gCons (gName i1) (gCons (gName i2) (gCons (gName i3) gNil))))) tz D σ H :=
  h H (Ex.refl H) _ fun H1 e1 => ⟨p, [x, y, z], rfl, ex_t e1 hp, rfl, _, _, rfl, _, _, rfl, _, _, rfl, rfl, c H1 e1⟩
theorem ev_neLenL {n m : Nat} {p : Addr} (h1 : Ev ta σ H (.ref p)) (hp : SqL K H p [.int (n : Nat)]) (h2 : Ev tb σ H (.int (m : Nat))) (e : n = m) : Ev (tOp (rNeD K) ta (tLst (tCons tb tNil))) σ H (.bl false) := fun H1 e1 Q q =>
  h1 H1 e1 _ fun H2 e2 => (el_lst (ea_cons h2 ea_nil) (by show 1 ≤ 100000; decide)) H2 (e1.trans e2) _ fun r H3 _ e3 h3 => ⟨.list [.int (n : Int)], .list [.int (m : Int)], .lst (ex_l ((e1.trans e2).trans e3) hp) (.cons (.int _) .nil), .lst (sq_of h3) (.cons (.int _) .nil), rfl, rfl, by
    have z : (!PyData.eqv (.list [.int (n : Int)]) (.list [.int (m : Int)])) = false := by rw [e]; simp [PyData.eqv, PyData.eqvAll]
    rw [z]; exact q H3 (e2.trans e3)⟩
theorem ev_neStr {s : Str} {p : Addr} {d : PyData} (hd : d = .tuple [.str s]) (h1 : Ev ta σ H (.ref p)) (hp : SqT K H p [.str s]) (hs : SeqAt.shaped d = true) (he : PyData.eqv d d = true) : Ev (tOp (rNeD K) ta (tTup (tCons (tC (.str s)) tNil))) σ H (.bl false) := fun H1 e1 Q q =>
  h1 H1 e1 _ fun H2 e2 => (eu_tup (ea_cons ev_c ea_nil) (by show 1 ≤ 100000; decide)) H2 (e1.trans e2) _ fun r H3 _ e3 h3 => by
    subst hd
    exact ⟨_, _, .tup (ex_t ((e1.trans e2).trans e3) hp) (.cons (.str _) .nil), .tup (st_of h3) (.cons (.str _) .nil), hs, hs, by rw [he]; exact q H3 (e2.trans e3)⟩
/-- xs[-1:] -/
theorem el_last {ti : TE} {ys : List V} {x : V} {p : Addr} (h : Ev te σ H (.ref p)) (hp : SqL K H p (ys ++ [x])) (hi : Ev ti σ H (.int (-1))) : EvL (tSl (rSlL K) te (tPart ti) tNoPart) σ H [x] := fun H1 e Q q =>
  h H1 e _ fun H2 e2 => hi H2 (e.trans e2) _ fun H3 e3 => ⟨-1, rfl, p, ys ++ [x], rfl, ex_l ((e.trans e2).trans e3) hp, fun r hr => by
      refine q r _ (fresh_back (e2.trans e3) hr) ((e2.trans e3).trans (Ex.new hr)) ?_
      rw [upd_same]
      unfold cutV
      have a : HT.sIx (ys ++ [x]).length 0 (some (-1)) = ys.length := by
        unfold HT.sIx
        simp
        try omega
      rw [a, HT.sIx_none]
      simp⟩
theorem op_notInK {X : Cx} (K : PySem.W.Frag) (hK : X.K = K) : OpR X (compareOp .NotIn) (rIn K true) := by subst hK; exact op_notIn_seq
theorem inV_ints (i : Int) : ∀ ns : List Int, inV (.int i) (ns.map V.int) = decide (i ∈ ns)
  | [] => rfl
  | n :: r => by
    have ih := inV_ints i r
    unfold inV at ih ⊢
    rw [List.map_cons, List.any_cons, ih]
    have e : eqV (.int n) (.int i) = decide (i = n) := by
      show (n == i) = _
      by_cases z : i = n
      · simp [z]
      · simp [z, Ne.symm z]
    rw [e]
    simp [List.mem_cons]
theorem flat_ints (ns : List Int) : (ns.map V.int).all flatV = true := by
  rw [List.all_map, List.all_eq_true]
  intro x _
  rfl
theorem ev_notInLL {i : Int} {ns : List Int} (ha : Ev ta σ H (.int i)) (hb : EvL tb σ H (ns.map V.int)) : Ev (tOp (rIn K true) ta tb) σ H (.bl (!decide (i ∈ ns))) := fun H1 e Q q =>
  ha H1 e _ fun H2 e2 => hb H2 (e.trans e2) _ fun p H3 _ e3 h3 => ⟨p, ns.map V.int, rfl, .inl (sq_of h3), rfl, flat_ints ns, by
    show Q (.bl (!inV (.int i) (ns.map V.int))) H3
    rw [inV_ints]; exact q H3 (e2.trans e3)⟩
/-- the lives of a list of bakeries -/
theorem el_livesL {j : Nat} {vs : List Nat} {el : List (Addr × Int)} {M : Addr → Prop} {E : XK} (h : Ev tl σ H (.ref X)) (hX : wn H M X = some (.lst (el.map fun x => V.ref x.1))) (hn : el.length ≤ 30) (hE : ∀ x ∈ el, ∃ i, BakAt K Z (wn H M) x.1 bs ds x.2 i) (hw : ∀ x, wipe ((wipe σ vs).set j (some x)) vs = wipe σ vs) (hsl : ∀ x, ((wipe σ vs).set j (some x))[j]? = some (some x)) :
    EvL (tLc (iList K tl) (gName j) tYes (tProp Z.c_Bakery (sp_Blife K Z) [] E (tVar j)) vs) σ H ((el.map (·.2)).map V.int) := by
  refine el_eq (el_lcL (xs := el.map fun x => V.ref x.1) (a := X) (fun _ => true) (fun i => V.int (el.getD i (0, 0)).2) h (sq_of (wn_ex _ _ hX)) (by rw [List.length_map]; omega) hw (fun _ _ _ _ _ => et_yes) fun i x G e hx _ => ?_) (by rw [List.length_map, given_map (d := ((0, 0) : Addr × Int)) (v := fun x => V.int x.2), List.map_map]; rfl)
  obtain ⟨rfl, _, hmem⟩ := at_mapG (d := ((0, 0) : Addr × Int)) hx
  obtain ⟨i', hB⟩ := hE _ hmem
  exact ev_lifeP (ev_var (hsl _)) ((hB.mono wn_ex).mono e)
end
variable {P : Program} {w : World} {K : PySem.W.Frag} {mg : Str → Option Value} {base : Heap} {Z : Ad}
section
variable {σ : L2.St} {H : Hp} {ta : TE} {o F A : Addr} {bs ds : List Int} {bl : List (Addr × Int)} {rl : List (Addr × Rec)} {E : XK}
theorem eu_lives (h : Ev ta σ H (.ref o)) (hO : ObsAt K Z H o bs ds F A bl rl) : EvU (tProp Z.c_LifeObserver (sp_Olives K Z) [] E ta) σ H ((bl.map (·.2)).map V.int) := fun H1 e Q q => h H1 e _ fun H2 e2 =>
  let ⟨dx, x⟩ := hO.inst; ⟨o, dx, _, rfl, e2 _ _ (e _ _ x), o, bs, ds, F, A, bl, rl, rfl, hO.mono (e.trans e2), fun p H3 np e3 h3 => q p H3 (fresh_back e2 np) (e2.trans e3) h3⟩
theorem el_recs (h : Ev ta σ H (.ref o)) (hO : ObsAt K Z H o bs ds F A bl rl) : EvL (tProp Z.c_LifeObserver (sp_Orecs K Z) [] E ta) σ H (rl.map fun x => V.ref x.1) := fun H1 e Q q => h H1 e _ fun H2 e2 =>
  let ⟨dx, x⟩ := hO.inst; ⟨o, dx, _, rfl, e2 _ _ (e _ _ x), o, bs, ds, F, A, bl, rl, rfl, hO.mono (e.trans e2), fun p H3 np e3 h3 => q p H3 (fresh_back e2 np) (e2.trans e3) h3⟩
end
theorem eu_eqX {σ : L2.St} {H : Hp} {te : TE} {xs zs : List V} (h : EvU te σ H zs) (e : zs = xs) : EvU te σ H xs := e ▸ h
theorem st9_tell {T : List NTab} {h l o A R tone X F : Addr} {bs ds : List Int} {life : Int} {el bl : List (Addr × Int)} {rl rr : List (Addr × Rec)} {n : Nat} {σ : L2.St} {H : Hp} {ta tb : TE} {E : XK} (s : St9 K Z T h l o A R tone bs ds life X el F bl rl rr n H) (h1 : Ev ta σ H (.ref o)) (h2 : Ev tb σ H (.ref X)) : Ev (tCall (sp_tr K Z) [] E (tCons ta (tCons tb tNil))) σ H (.bl true) :=
  ev_call (ea_cons h1 (ea_cons h2 ea_nil)) fun G e Q q _ => ⟨o, X, bs, ds, F, A, bl, rl, el, rfl, s.hO.mono (wn_ex.trans e), s.ne, sq_of (e _ _ (wn_ex _ _ s.hX)), fun x hx => let ⟨i, y⟩ := s.hE x hx; ⟨i, y.mono (wn_ex.trans e)⟩, s.hL, q⟩
theorem ok_law (T : Txt K mg Z) (hP : P = Z.P) (TB : LamX.TabB base mg Z.k_law Z.tb_law) : FnOk P w K mg base CX0 13 Z.f_law Z.d_law p_law (sp_lawT K Z.tb_law) := by
  refine T.FC_law.ok sc_law (fun vs H Q E h => ?_) (fun Ar outer s H vs Q E hr h => ?_)
  · obtain ⟨a, ns, rfl, _⟩ := h
    rfl
  · obtain ⟨a, cells, rfl, hS, hn, hT0, k⟩ := h
    have TBm : (Z.tb_law, nmLaw) ∈ [(Z.tb_law, nmLaw)] := List.mem_singleton.mpr rfl
    have TBu : ∀ p ∈ [(Z.tb_law, nmLaw)], p.1 = Z.tb_law → p.2 = nmLaw := fun p hp _ => by rw [List.mem_singleton.mp hp]
    have T0 : TabsN [(Z.tb_law, nmLaw)] H := fun p hp => by rw [List.mem_singleton.mp hp]; exact TabN.nil hT0
    refine ⟨_, (pss_cons (ps_set (i := 1) sc_law.nd rfl (Or.inl rfl) (pe_call (ok__law_mix T) (hr.mono (by decide)) (by rfl) T.g__law_mix T.F__law_mix.kp T.b__law_mix .nil pass0 (pa_cons (pv 0) (pa_cons pe_int pa_nil))))
      (pss_cons (ps_asg (pe_call (ok__law_parts T) (hr.mono (by decide)) (by rfl) T.g__law_parts T.F__law_parts.kp T.b__law_parts .nil pass0 (pa_cons (pv 1) (pa_cons pe_int (pa_cons (pe_ix (r := rIxL K) ix_list (pe_lst (pa_cons pe_int (pa_cons (pe_op op_pow pe_int pe_int) pa_nil))) (pe_op op_fdivW (pe_call (ok__law_next T) (hr.mono (by decide)) (by rfl) T.g__law_next T.F__law_next.kp T.b__law_next .nil pass0 (pa_cons (pv 1) (pa_cons pe_int pa_nil))) pe_int) (fun _ _ => rfl)) pa_nil)))) (by exact (pg_tupK K (n := 3) rfl rfl (pgs_cons (pg_name (i := 2) sc_law.nd rfl (Or.inr rfl)) (pgs_cons (pg_name (i := 3) sc_law.nd rfl (Or.inr rfl)) (pgs_cons (pg_name (i := 4) sc_law.nd rfl (Or.inl rfl)) pgs_nil))))))
      (pss_cons (ps_setLc (i := 5) (own := [("_law_one", 16)]) rfl sc_law.nd rfl rfl (sw_true rfl rfl rfl (by decide +kernel)) (pi_range2 (by rfl) T.b_range (pa_cons pe_int (pa_cons pe_int pa_nil))) (blkOk_by (own := [("_law_one", 16)]) (N := n_law) (sc := defScope s_law) (scope := { kind := PySem.ScopeKind.function, names := [ (PySem.Str.ofString ".0", PySem.NameKind.local), (PySem.Str.ofString "_law_one", PySem.NameKind.local), (PySem.Str.ofString "Bakery", PySem.NameKind.globalImplicit), (PySem.Str.ofString "_law_bakes", PySem.NameKind.free), (PySem.Str.ofString "_law_demands", PySem.NameKind.free)], isGenerator := false, isCoroutine := false, more := [] : PySem.Scope }) (by decide +kernel)) (fun _ _ _ _ _ => (pg_name (i := 16) sc_law.nd rfl (Or.inl rfl))) (fun _ _ _ _ _ => pts_nil) (fun _ _ _ _ _ => (pe_make T.mk_Bakery (ok_Bakery___init__ T) (hr.mono (by decide)) (by rfl) T.g_Bakery T.b_Bakery___init__ .nil pass0 (pa_cons (pv 2) (pa_cons (pv 3) (pa_cons (pv 16) pa_nil))))))
      (pss_cons (ps_asg (pe_tup (pa_cons (pe_make T.mk_LifeObserver (ok_LifeObserver___init__ T) (hr.mono (by decide)) (by rfl) T.g_LifeObserver T.b_LifeObserver___init__ .nil pass0 (pa_cons (pv 2) (pa_cons (pv 3) pa_nil))) (pa_cons (pe_lst pa_nil) (pa_cons (pe_ix (r := rIxL K) ix_list (pv 5) (pe_op op_sub (pv 4) pe_int) (fun _ _ => rfl)) pa_nil)))) (by exact (pg_tupK K (n := 3) rfl rfl (pgs_cons (pg_name (i := 13) sc_law.nd rfl (Or.inr rfl)) (pgs_cons (pg_name (i := 6) sc_law.nd rfl (Or.inl rfl)) (pgs_cons (pg_name (i := 7) sc_law.nd rfl (Or.inl rfl)) pgs_nil))))))
      (pss_cons (ps_if (pt_not (pt_val (pe_call (ok__law_telling_right T) (hr.mono (by decide)) (by rfl) T.g__law_telling_right T.F__law_telling_right.kp T.b__law_telling_right .nil pass0 (pa_cons (pv 13) (pa_cons (pv 5) pa_nil))))) (pss_one (ps_ret pe_bl)) pss_nil)
      (pss_cons (ps_for PassesOwn.never rfl (pi_range1 (by rfl) T.b_range (pa_cons (pe_op op_add pe_int (pe_call (ok__law_next T) (hr.mono (by decide)) (by rfl) T.g__law_next T.F__law_next.kp T.b__law_next .nil pass0 (pa_cons (pv 1) (pa_cons pe_int pa_nil)))) pa_nil)) (pg_name (i := 8) sc_law.nd rfl (Or.inl rfl)) (pss_cons (ps_asg (pe_tup (pa_cons (pe_ix (r := rIxL K) ix_list (pe_lst (pa_cons pe_str (pa_cons pe_str (pa_cons pe_str pa_nil)))) (pe_call (ok__law_next T) (hr.mono (by decide)) (by rfl) T.g__law_next T.F__law_next.kp T.b__law_next .nil pass0 (pa_cons (pv 1) (pa_cons pe_int pa_nil))) (fun _ _ => rfl)) (pa_cons (pe_call (ok__law_next T) (hr.mono (by decide)) (by rfl) T.g__law_next T.F__law_next.kp T.b__law_next .nil pass0 (pa_cons (pv 1) (pa_cons (pe_ix (r := rIxL K) ix_list (pe_lst (pa_cons pe_int (pa_cons (pe_op op_pow pe_int pe_int) pa_nil))) (pe_call (ok__law_next T) (hr.mono (by decide)) (by rfl) T.g__law_next T.F__law_next.kp T.b__law_next .nil pass0 (pa_cons (pv 1) (pa_cons pe_int pa_nil))) (fun _ _ => rfl)) pa_nil))) pa_nil))) (by exact (pg_tupK K (n := 2) rfl rfl (pgs_cons (pg_name (i := 15) sc_law.nd rfl (Or.inr rfl)) (pgs_cons (pg_name (i := 11) sc_law.nd rfl (Or.inr rfl)) pgs_nil)))))
      (pss_cons (ps_set (i := 12) sc_law.nd rfl (Or.inr rfl) (pe_op op_add (pe_call (ok__law_number T) (hr.mono (by decide)) (by rfl) T.g__law_number T.F__law_number.kp T.b__law_number .nil pass0 (pa_cons (pv 7) (pa_cons (pv 15) (pa_cons (pv 11) pa_nil)))) (pe_op op_fdivW (pe_call (ok__law_next T) (hr.mono (by decide)) (by rfl) T.g__law_next T.F__law_next.kp T.b__law_next .nil pass0 (pa_cons (pv 1) (pa_cons pe_int pa_nil))) pe_int)))
      (pss_cons (ps_asg (pe_tup (pa_cons (pe_lc (own := [("_law_one", 16)]) rfl sc_law.nd (pi_listK K rfl (pv 5)) (blkOk_by (own := [("_law_one", 16)]) (N := n_law) (sc := defScope s_law) (scope := { kind := PySem.ScopeKind.function, names := [ (PySem.Str.ofString ".0", PySem.NameKind.local), (PySem.Str.ofString "_law_one", PySem.NameKind.local), (PySem.Str.ofString "_law_number", PySem.NameKind.globalImplicit), (PySem.Str.ofString "_law_day", PySem.NameKind.free), (PySem.Str.ofString "_law_number_here", PySem.NameKind.free), (PySem.Str.ofString "_law_word", PySem.NameKind.free)], isGenerator := false, isCoroutine := false, more := [] : PySem.Scope }) (by decide +kernel)) (fun _ _ _ _ _ => (pg_name (i := 16) sc_law.nd rfl (Or.inl rfl))) (fun _ _ _ _ _ => (pts_one (pt_cmpR op_eq (pe_call (ok__law_number T) (hr.mono (by decide)) (by rfl) T.g__law_number T.F__law_number.kp T.b__law_number .nil pass0 (pa_cons (pv 16) (pa_cons (pv 15) (pa_cons (pv 11) pa_nil)))) (pv 12) (nomark _)))) (fun _ _ _ _ _ => (pv 16))) (pa_cons (pe_lst pa_nil) pa_nil))) (by exact (pg_tupK K (n := 2) rfl rfl (pgs_cons (pg_name (i := 9) sc_law.nd rfl (Or.inl rfl)) (pgs_cons (pg_name (i := 14) sc_law.nd rfl (Or.inr rfl)) pgs_nil)))))
      (pss_cons (ps_set (i := 10) sc_law.nd rfl (Or.inl rfl) (pe_callZ (ok__law_error T) (hr.mono (by decide)) (by rfl) T.g__law_error T.F__law_error.kp T.b__law_error .nil (pa_cons (pe_lamE TB rfl TBm rfl TBu rfl (fun y hy e => ndef_free (sc := defScope s_law) (fr := []) (by decide +kernel) y hy e)) pa_nil)))
      (pss_cons (ps_if (pt_cmpR (op_eqE hr.units) (pv 9) (pe_lst pa_nil) (nomark _)) (pss_one (ps_if (pt_cmpR (op_neD hr.units) (pv 10) (pe_tup (pa_cons pe_str pa_nil)) (nomark _)) (pss_one (ps_ret pe_bl)) pss_nil)) (pss_cons (ps_set (i := 5) sc_law.nd rfl (Or.inl rfl) (pv 9))
      (pss_cons (ps_expr (pe_bm PySem.F.plainAttrs_list PySem.F.slot_list_append PySem.F.type_list_append mt_append (pv 6) (pa_cons (pe_tup (pa_cons (pv 15) (pa_cons (pv 11) (pa_cons (pv 12) pa_nil)))) pa_nil)))
      (pss_one (ps_if (PW.pt (pw_or (pt_cmpR (op_neD hr.units) (pv 10) (pe_tup (pa_cons pe_str pa_nil)) (nomark _)) (pw_or1 (pt_cmpR (op_neD hr.units) (pv 14) (pe_lst (pa_cons (pe_callB (r := rLenS K) (call_len_seq) (by rfl) T.b_len boot_len (pa_cons (pv 9) pa_nil)) pa_nil)) (nomark _))))) (pss_one (ps_ret pe_bl)) pss_nil)))))
      (pss_cons (ps_if (pt_not (pt_val (pe_call (ok__law_alike T 3) (hr.mono (by decide)) (by rfl) T.g__law_alike T.F__law_alike.kp T.b__law_alike .nil pass0 (pa_cons (pe_lst (pa_cons (pe_prop (pv 13) T.cl_LifeObserver T.pp_LifeObserver_possible_lives (ok_LifeObserver_possible_lives T) (hr.mono (by decide)) T.b_LifeObserver_possible_lives .nil pass0 rfl) (pa_cons (pe_prop (pv 13) T.cl_LifeObserver T.pp_LifeObserver_records (ok_LifeObserver_records T) (hr.mono (by decide)) T.b_LifeObserver_records .nil pass0 rfl) pa_nil))) (pa_cons (pe_lst (pa_cons (pe_callTy (r := rTupS K) (call_tuple_of) (by rfl) T.b_tuple boot_tuple (pa_cons (pe_lc (own := [("_law_one", 16)]) rfl sc_law.nd (pi_listK K rfl (pv 5)) (blkOk_by (own := [("_law_one", 16)]) (N := n_law) (sc := defScope s_law) (scope := { kind := PySem.ScopeKind.function, names := [(PySem.Str.ofString ".0", PySem.NameKind.local), (PySem.Str.ofString "_law_one", PySem.NameKind.local)], isGenerator := false, isCoroutine := false, more := [] : PySem.Scope }) (by decide +kernel)) (fun _ _ _ _ _ => (pg_name (i := 16) sc_law.nd rfl (Or.inl rfl))) (fun _ _ _ _ _ => pts_nil) (fun _ _ _ _ _ => (pe_prop (pv 16) T.cl_Bakery T.pp_Bakery_life (ok_Bakery_life T) (hr.mono (by decide)) T.b_Bakery_life .nil pass0 rfl))) pa_nil)) (pa_cons (pv 6) pa_nil))) pa_nil))))) (pss_one (ps_ret pe_bl)) pss_nil)
      (pss_one (ps_if (PW.pt (pw_or (pt_cmpR op_gt (pe_prop (pe_ix (r := rIxL K) ix_list (pv 5) pe_int (fun _ _ => rfl)) T.cl_Bakery T.pp_Bakery_life (ok_Bakery_life T) (hr.mono (by decide)) T.b_Bakery_life .nil pass0 rfl) (pv 4) (nomark _)) (pw_or1 (pt_cmpR (op_notInK K rfl) (pv 4) (pe_lc (own := [("_law_one", 16)]) rfl sc_law.nd (pi_listK K rfl (pv 5)) (blkOk_by (own := [("_law_one", 16)]) (N := n_law) (sc := defScope s_law) (scope := { kind := PySem.ScopeKind.function, names := [(PySem.Str.ofString ".0", PySem.NameKind.local), (PySem.Str.ofString "_law_one", PySem.NameKind.local)], isGenerator := false, isCoroutine := false, more := [] : PySem.Scope }) (by decide +kernel)) (fun _ _ _ _ _ => (pg_name (i := 16) sc_law.nd rfl (Or.inl rfl))) (fun _ _ _ _ _ => pts_nil) (fun _ _ _ _ _ => (pe_prop (pv 16) T.cl_Bakery T.pp_Bakery_life (ok_Bakery_life T) (hr.mono (by decide)) T.b_Bakery_life .nil pass0 rfl))) (by rfl))))) (pss_one (ps_ret pe_bl)) pss_nil)))))))))
      (pss_cons (ps_if (pt_cmpR (op_neE hr.units) (pv 6) (pe_lst pa_nil) (nomark _)) (pss_cons (ps_asg (pe_ix (r := rIxL K) ix_list (pv 6) (pe_un un_neg pe_int) (fun _ _ => rfl)) (by exact (pg_tupK K (n := 3) rfl rfl (pgs_cons (pg_name (i := 15) sc_law.nd rfl (Or.inr rfl)) (pgs_cons (pg_name (i := 11) sc_law.nd rfl (Or.inr rfl)) (pgs_cons (pg_name (i := 12) sc_law.nd rfl (Or.inr rfl)) pgs_nil))))))
      (pss_one (ps_if (PW.pt (pw_or (pt_cmpR op_ne (pe_call (ok__law_seen T) (hr.mono (by decide)) (by rfl) T.g__law_seen T.F__law_seen.kp T.b__law_seen .nil pass0 (pa_cons (pv 13) (pa_cons (pv 15) (pa_cons (pv 11) (pa_cons (pv 12) pa_nil))))) (pe_callB (r := rLenS K) (call_len_seq) (by rfl) T.b_len boot_len (pa_cons (pv 5) pa_nil)) (nomark _)) (pw_or1 (pt_cmpR (op_neD hr.units) (pe_prop (pv 13) T.cl_LifeObserver T.pp_LifeObserver_records (ok_LifeObserver_records T) (hr.mono (by decide)) T.b_LifeObserver_records .nil pass0 rfl) (pe_op op_cat (pv 6) (pe_slice (r := rSlL K) sl_list (pv 6) (po_some (pe_un un_neg pe_int)) po_none)) (nomark _))))) (pss_one (ps_ret pe_bl)) pss_nil))) pss_nil)
      (pss_one (ps_ret (pe_call (ok__law_telling_right T) (hr.mono (by decide)) (by rfl) T.g__law_telling_right T.F__law_telling_right.kp T.b__law_telling_right .nil pass0 (pa_cons (pv 13) (pa_cons (pv 5) pa_nil)))))))))))), ?_⟩
    refine ⟨_, rfl, a, cells, 9, rfl, hS, hn, by decide, by decide, fun h l H1 hh hl' e1 hs1 => ?_⟩
    have T1 := T0.ext e1
    -- the parts
    refine x_asgG (P := fun v G => ∃ p pb pd bs ds life wide, v = .ref p ∧ G p = some (.tup [.ref pb, .ref pd, .int life]) ∧ Parts K G pb pd bs ds life 5 wide) hs1 (x_call3 (A := fun i => i = 5) (B := fun i => 1 ≤ i ∧ i ≤ 1000000000) (fun G => ev_var rfl) (xi_ev ev_c rfl)
      ((xi_pick (K := K) (n := 2) (ns := [9, 1000000000]) (B := fun i => 0 ≤ i ∧ i < 2) (el_lst (ea_cons ev_c (ea_cons (ev_pow ⟨by decide, by decide, by decide⟩ pw9) ea_nil)) (by show 2 ≤ 100000; decide)) (xi_op (A := fun i => 0 ≤ i ∧ i < 3) (B := fun i => i = 2) ((xi_next (A := fun i => i = 3) (fun G => ev_var rfl) (xi_ev ev_c rfl) (fun i e => by omega)).imp fun v q => ⟨q.1, by obtain ⟨i, e, q⟩ := q.2; omega⟩) (xi_ev ev_c rfl) (fun i j hi hj => ⟨wide_div (b := 10) (by omega) (by omega) (by decide) (by decide), by subst hj; omega⟩)) (fun i q => by simpa using q)).imp fun i hi => by simp at hi; omega)
      (fun i j H2 hi hj d Q q => by
        subst hi
        exact ⟨h, l, 5, j, rfl, by decide, by decide, hj.1, hj.2, d.hs, fun p pb pd bs ds life H3 d3 hp hP => q _ H3 d3 ⟨p, pb, pd, bs, ds, life, j, rfl, hp, hP⟩⟩)) fun v H2 d2 ⟨p, pb, pd, bs, ds, life, wide, e, hp, hP⟩ => ?_
    subst e
    refine ⟨p, [.ref pb, .ref pd, .int life], rfl, st_of (wn_ex _ _ hp), rfl, _, _, rfl, _, _, rfl, _, _, rfl, rfl, ?_⟩
    have gd := hP.gd
    have l0 := hP.l0
    have l1 := hP.l1
    have hb2 := hP.hb
    have hd2 := hP.hd
    have T2 := tabs_dr hs1 d2 T1
    have hs2 := d2.hs
    clear hP hp
    -- all bakeries
    refine q_asgR (M := hl h l) (er_lcO (lo := 1) (hi := 31) (Pr := fun l p G => ∃ i, BakAt K Z G p bs ds l i) (ea_cons ev_c (ea_cons ev_c ea_nil)) ⟨by decide, by decide, by decide⟩ (fun _ => rfl) (fun _ _ _ _ e ⟨i, h⟩ => ⟨i, h.mono e⟩)
      (fun l' H3 M' e1 eM h0 h1 => er_bakery (ea_cons (ev_var rfl) (ea_cons (ev_var rfl) (ea_cons (ev_var rfl) ea_nil))) (ex_t eM hb2) (ex_t eM hd2) gd h0 (by omega))) hs2.kn fun X H3 nX e3 ⟨el, hX3, hel, hE3⟩ => ?_
    have hs3 := hs2.mono e3
    have T3 := T2.ext e3
    have hb3 := ex_t (wn_mono e3) hb2
    have hd3 := ex_t (wn_mono e3) hd2
    have hel : el.map (·.2) = lives := hel
    have le : el.length = 30 := by
      have z := congrArg List.length hel
      simpa [lives] using z
    obtain ⟨ln, hln⟩ : ∃ ln : Nat, life - 1 = (ln : Int) := ⟨(life - 1).toNat, by omega⟩
    have lnl : ln < el.length := by omega
    have hto : el[ln].2 = life := by
      have z := congrArg (fun x => x[ln]?) hel
      simp only [List.getElem?_map, List.getElem?_eq_getElem lnl, Option.map_some, lives] at z
      rw [List.getElem?_range (by omega)] at z
      have z : el[ln].2 = 1 + (ln : Int) := Option.some.inj z
      omega
    -- an observer, the records, the true one
    refine q_obs3 (K := K) (Z := Z) (bs := bs) (ds := ds) (M := hl h l) (v := .ref el[ln].1) (fun Q q => er_observer (ea_cons (ev_var rfl) (ea_cons (ev_var rfl) ea_nil)) hb3 hd3 gd H3 (Ex.refl _) hs3.kn Q q) (fun G => el_lst ea_nil (by show 0 ≤ 100000; decide))
      (fun G e => ev_ixL (ev_var rfl) (sq_of (e _ _ (wn_ex _ _ hX3))) (Ev.int_eq (ev_op (ev_var rfl) ev_c rv_I0) hln) (atI_nat (by rw [List.getElem?_map, List.getElem?_eq_getElem lnl]; rfl))) fun o H4 F A bl R H5 no nA e4 hO4 hbl nR e5 hR5 => ?_
    have w35 : Ex (wn H3 (hl h l)) (wn H5 (hl h l)) := wn_mono (e4.trans e5)
    obtain ⟨dxo, hio⟩ := hO4.inst
    have nMo := (wn_some hio).1
    have nMA := (wn_some hO4.hA).1
    have ho4 := (wn_some hio).2
    have hA4 := (wn_some hO4.hA).2
    have nRh : ¬ hl h l R := fun z => (hs3.mono e4).kn R z nR
    have w3M : Ex (wn H3 (hl h l)) (wn H5 (M4 h l o A R)) := fun b u q => by
      obtain ⟨m, q1⟩ := wn_some q
      rw [wn_ni]
      · exact e5 _ _ (e4 _ _ q1)
      · rintro (z | z | z | z)
        · exact m z
        · rw [z, no] at q1; cases q1
        · rw [z, nA] at q1; cases q1
        · rw [z] at q1; rw [e4 _ _ q1] at nR; cases nR
    have w4R : Ex (wn H4 (hl h l)) (wn H5 (hlR h l R)) := fun b u q => by
      obtain ⟨m, q1⟩ := wn_some q
      rw [wn_ni fun z => z.elim m fun z => by rw [z, nR] at q1; cases q1]
      exact e5 _ _ q1
    have st0 : St9 K Z [(Z.tb_law, nmLaw)] h l o A R el[ln].1 bs ds life X el F bl [] [] 0 H5 :=
      ⟨(hs3.mono e4).mono e5, (T3.ext e4).ext e5, hO4.mono w4R, (wn_ni nRh).trans hR5, (fun z => by rw [z, hA4] at nR; cases nR), (fun x hx => by cases hx), rfl, (fun x hx => by cases hx), w3M _ _ hX3, fun x hx => let ⟨i, y⟩ := hE3 x hx; ⟨i, y.mono w3M⟩,
        let ⟨i, y⟩ := hE3 el[ln] (List.getElem_mem lnl); ⟨i, (by rw [← hto]; exact y.mono w3M)⟩, (by rw [hel, hbl]), (fun z => by rw [z] at hbl; have z := congrArg List.length hbl; simp [lives] at z), .inl rfl, Nat.le_refl _⟩
    generalize el[ln].1 = tone at st0 ⊢
    clear hb2 hd2 hE3 hX3 hO4 hb3 hd3
    refine q_when (b := false) (et_not (a := true) (et_B (st9_tell st0 (ev_var rfl) (ev_var rfl)))) (fun hb => nomatch hb) fun _ H6 e6 => ?_
    have st6 := st0.mono e6
    -- the observations
    refine q_forX (A := fun n => 0 ≤ n ∧ n ≤ 3) st6.hs (xi_op0 (A := fun i => i = 1) (B := fun i => 0 ≤ i ∧ i < 3) (xi_ev ev_c rfl) ((xi_next (A := fun i => i = 3) (fun G => ev_var rfl) (xi_ev ev_c rfl) (fun i e => by omega)).imp fun v q => ⟨q.1, by obtain ⟨i, e, q⟩ := q.2; omega⟩) (fun i j a b => by omega)) fun n H7 d7 hn7 => ?_
    have st7 := st6.dr d7
    refine q_forR1 (n := n) (ea_cons ev_c ea_nil) ⟨by omega, by omega⟩ (fun t σ' H' => ∃ X el F bl rl rr x8 x9 x10 x11 x12 x14 x15 x16, σ' = [some (.ref a), some (.ref h), some (.ref pb), some (.ref pd), some (.int life), some (.ref X), some (.ref R), some (.ref tone), x8, x9, x10, x11, x12, some (.ref o), x14, x15, x16] ∧ St9 K Z [(Z.tb_law, nmLaw)] h l o A R tone bs ds life X el F bl rl rr t H')
      (fun H8 e8 => ⟨X, el, F, bl, [], [], _, _, _, _, _, _, _, _, rfl, st7.mono e8⟩) ?_ ?_
    · rintro t σ' H8 ht ⟨X, el, F, bl, rl, rr, _, _, _, _, _, _, _, _, rfl, s8⟩
      have ht3 : t < 3 := by omega
      -- a kind, a day
      refine q_pairX (K := K) (P := fun v _ => ∃ word g, v = .str word ∧ WordIs word g) (A := fun i => 0 ≤ i ∧ i < 1000000000000000000) s8.hs
        ((x_pickV (K := K) (xs := [.str "sold", .str "thrown", .str "stock"]) (B := fun i => 0 ≤ i ∧ i < 3) (el_lst (ea_cons ev_c (ea_cons ev_c (ea_cons ev_c ea_nil))) (by show 3 ≤ 100000; decide)) ((xi_next (A := fun i => i = 3) (fun G => ev_var rfl) (xi_ev ev_c rfl) (fun i e => by omega)).imp fun v q => ⟨q.1, by obtain ⟨i, e, q⟩ := q.2; omega⟩) (fun i q => by simpa using q)).imp fun v G hv => by
          simp only [List.mem_cons, List.not_mem_nil, or_false] at hv
          rcases hv with rfl | rfl | rfl
          · exact ⟨_, gS, rfl, .inl ⟨rfl, rfl⟩⟩
          · exact ⟨_, gT, rfl, .inr (.inl ⟨rfl, rfl⟩)⟩
          · exact ⟨_, gD, rfl, .inr (.inr ⟨rfl, rfl⟩)⟩)
        ((xi_next (A := fun i => i ∈ ([30, 1000000000000000000] : List Int)) (fun G => ev_var rfl) (xi_pick (K := K) (n := 2) (ns := [30, 1000000000000000000]) (B := fun i => 0 ≤ i ∧ i < 2) (el_lst (ea_cons ev_c (ea_cons (ev_pow ⟨by decide, by decide, by decide⟩ pw18) ea_nil)) (by show 2 ≤ 100000; decide)) ((xi_next (A := fun i => i = 2) (fun G => ev_var rfl) (xi_ev ev_c rfl) (fun i e => by omega)).imp fun v q => ⟨q.1, by obtain ⟨i, e, q⟩ := q.2; omega⟩) (fun i q => by simpa using q)) (fun i hi => by simp at hi; omega)).imp fun v q => ⟨q.1, by obtain ⟨i, e, q⟩ := q.2; simp at e; omega⟩) fun v jd Ha H9 da db ⟨word, g, ew, hw⟩ hjd => ?_
      subst ew
      obtain ⟨day, rfl⟩ : ∃ day : Nat, jd = (day : Int) := ⟨jd.toNat, by omega⟩
      have hd : (day : Int) ≤ 1000000000000000000 := by omega
      have s9 := s8.dr (da.trans db)
      obtain ⟨it, hBt⟩ := s9.hT
      have gs := g_small gd l0 l1 hw day
      -- a number
      refine x_asgI (A := fun i => i.natAbs < 10 ^ 30) s9.hs (xi_op0 (A := fun i => i = g bs ds day life) (B := fun i => 0 ≤ i ∧ i ≤ 1) (xi_ev (ev_call (ea_cons (ev_var rfl) (ea_cons (ev_var rfl) (ea_cons (ev_var rfl) ea_nil))) (fun G e Q q _ => ⟨tone, word, day, bs, ds, life, it, g, rfl, hd, (hBt.mono (wn_sub fun b z => .inl z)).mono e, hw, q⟩)) rfl)
        (xi_op (A := fun i => 0 ≤ i ∧ i < 6) (B := fun i => i = 5) ((xi_next (A := fun i => i = 6) (fun G => ev_var rfl) (xi_ev ev_c rfl) (fun i e => by omega)).imp fun v q => ⟨q.1, by obtain ⟨i, e, q⟩ := q.2; omega⟩) (xi_ev ev_c rfl) (fun i j hi hj => ⟨wide_div (b := 10) (by omega) (by omega) (by decide) (by decide), by subst hj; omega⟩)) (fun i j a b => by subst a; omega)) fun num H10 d10 hn10 => ?_
      have s10 := s9.dr d10
      have leb : el.length = bl.length := by
        have z := congrArg List.length s10.hL
        simpa using z
      have nb := s10.hO.nb
      -- those that agree, the results
      refine q_pairLL (K := K) (xs := (agr (g bs ds day) num el).map fun x => V.ref x.1) (ys := []) (el_eq (el_lcL (xs := el.map fun x => V.ref x.1) (a := X) (fun i => decide (g bs ds day (el.getD i (0, 0)).2 = num)) (fun i => V.ref (el.getD i (0, 0)).1) (ev_var rfl) (sq_of (wn_ex _ _ s10.hX)) (by rw [List.length_map]; omega) (fun _ => rfl) (fun i x G e hx => ?_) (fun i x G e hx _ => ?_)) (by rw [List.length_map]; exact given_gen (d := ((0, 0) : Addr × Int)) (f := fun x => decide (g bs ds day x.2 = num)) (v := fun x => V.ref x.1))) (el_lst ea_nil (by show 0 ≤ 100000; decide)) fun Y r H11 nY nr neY e11 hY hr => ?_
      · obtain ⟨rfl, _, hmem⟩ := at_mapG (d := ((0, 0) : Addr × Int)) hx
        obtain ⟨i', hB⟩ := s10.hE _ hmem
        exact et_is (et_test (ev_op (ev_call (ea_cons (ev_var rfl) (ea_cons (ev_var rfl) (ea_cons (ev_var rfl) ea_nil))) (fun G2 e2 Q q _ => ⟨(el.getD i (0, 0)).1, word, day, bs, ds, (el.getD i (0, 0)).2, i', g, rfl, hd, ((hB.mono wn_ex).mono e).mono e2, hw, q⟩)) (ev_var rfl) (rv_eq rfl))) (by simp)
      · obtain ⟨rfl, _, hmem⟩ := at_mapG (d := ((0, 0) : Addr × Int)) hx
        exact ev_var rfl
      have s11 := s10.mono e11
      have nrh : ¬ hl h l r := fun z => s10.hs.kn r z nr
      have nYh : ¬ hl h l Y := fun z => s10.hs.kn Y z nY
      have hOr : ObsAt K Z (wn H11 (Mr (hlR h l R) r)) o bs ds F A bl rl := s10.hO.mono fun b u q => by
        obtain ⟨m, q1⟩ := wn_some q
        rw [wn_ni fun z => z.elim (fun z => by rw [z, nr] at q1; cases q1) m]
        exact e11 _ _ q1
      have hr1 : rl.length < 1000 := by have := s11.nrl; omega
      have kno : ∀ {b : Addr}, H10 b = none → b ≠ o ∧ b ≠ A ∧ b ≠ R := fun {b} z => by
        obtain ⟨dx, hi⟩ := s10.hO.inst
        refine ⟨fun e => ?_, fun e => ?_, fun e => ?_⟩
        · rw [e, wn_ex _ _ hi] at z; cases z
        · rw [e, wn_ex _ _ s10.hO.hA] at z; cases z
        · rw [e, wn_ex _ _ s10.hR] at z; cases z
      -- what is seen
      refine q_obsE (K := K) (Z := Z) (L := hlR h l R) (o := o) (F := F) (A := A) (bs := bs) (ds := ds) (bl := bl) (bl' := agr (g bs ds day) num bl) (rl := rl) (rc := (word, (day : Int), num)) s11.tb s11.hs (fun b z => .inl z) nrh hr hOr (fun f c' H12 Hz N eN hf hc fz => ?_) fun p G' tb' hcase => ?_
      · refine lam_cal (N := ["_law_results", "_law_observer", "_law_word", "_law_day", "_law_number_here"]) (ps := []) (fr := ["_law_results", "_law_observer", "_law_word", "_law_day", "_law_number_here"]) (k := 10) (S0 := H12) (clo_frz (js := [14, 13, 15, 11, 12]) fz hf hc rfl (fun y hy e => ndef_free (sc := defScope s_law) (fr := []) (by decide +kernel) y hy e) (ndef_fr (sc := defScope s_law) (by decide +kernel)) rfl) (nscope_by (by dsimp only; decide +kernel)) backsX (fun _ _ us hl => match us, hl with | [], _ => rfl) (fun vs H Q E q => by rw [q.1]; rfl) fz.ex_
          (cl_none fz (fun y hy e => ndef_free (sc := defScope s_law) (fr := []) (by decide +kernel) y hy e)) (fun A' outer s H vs Q E hr' eS x0 q => ?_)
        obtain ⟨rfl, hbad, hgood⟩ := q
        refine ⟨_, pe_bmK K rfl PySem.F.plainAttrs_list PySem.F.slot_list_append PySem.F.type_list_append mt_append (pv 0) (pa_cons (pe_call (okM__law_seen T hP) (hr'.mono (by decide)) (by rfl) T.g__law_seen T.F__law_seen.kp T.b__law_seen .nil (passes_call (takes_of rfl rfl rfl rfl) (fun _ _ _ _ h => h)) (pa_cons (pv 1) (pa_cons (pv 2) (pa_cons (pv 3) (pa_cons (pv 4) pa_nil))))) pa_nil), ?_⟩
        have kL : ∀ b, hlR h l R b → H12 b ≠ none := fun b hb => by
          rcases hb with z | z
          · exact (hs_ext eN s11.hs).kn b z
          · rw [z, eN _ _ (wn_ex _ _ s11.hR) (fun _ z => nomatch z)]; exact fun q => nomatch q
        exact ob_body (N := N) (L := hlR h l R) (j := 0) (g := g) fz eS x0 (fun b ⟨y, hy⟩ => cl_off fz (fun y hy e => ndef_free (sc := defScope s_law) (fr := []) (by decide +kernel) y hy e) y b hy) kL (eN _ _ hr (fun _ z => nomatch z)) (obs_ext (extN_wn eN) hOr) hr1 hw hd hn10 hbad hgood rfl (ea_cons (ev_var rfl) (ea_cons (ev_var rfl) (ea_cons (ev_var rfl) (ea_cons (ev_var rfl) ea_nil))))
      obtain ⟨kYo, kYA, kYR⟩ := kno nY
      obtain ⟨kro, krA, krR⟩ := kno nr
      have hY' : G' Y = some (.lst ((agr (g bs ds day) num el).map fun x => V.ref x.1)) := by
        rcases hcase with ⟨_, en, _⟩ | ⟨_, F', ro, _, _, _, fr, _⟩
        · exact en _ _ hY (fun _ z => nomatch z)
        · exact fr _ _ hY (fun _ z => nomatch z) kYo kYA neY
      have eqn := agr_nil (g := g bs ds day) (num := num) s10.hL
      refine q_ifK (b := decide (((agr (g bs ds day) num el).map fun x => V.ref x.1).length = 0)) (M := fun σ' H' => ∃ X el F bl rl rr x8 x9 x10 x11 x12 x14 x15 x16, σ' = [some (.ref a), some (.ref h), some (.ref pb), some (.ref pd), some (.int life), some (.ref X), some (.ref R), some (.ref tone), x8, x9, x10, x11, x12, some (.ref o), x14, x15, x16] ∧ St9 K Z [(Z.tb_law, nmLaw)] h l o A R tone bs ds life X el F bl rl rr (t + 1) H') (et_test (ev_eqE (ev_var rfl) (sq_of hY') (el_lst ea_nil (by show 0 ≤ 100000; decide)))) ?_ (fun hb H13 e13 fin => ?_) (fun hb H13 e13 fin => ?_)
      rotate_left
      · have z0 : agr (g bs ds day) num bl = [] := eqn.mp (by simpa using hb)
        rcases hcase with ⟨_, en, hp⟩ | ⟨z, _⟩
        · have s13 := (s11.ext en tb').mono e13
          exact s_when (b := false) (et_test (ev_neStr rfl (ev_var rfl) (st_of (e13 _ _ hp)) (by decide +kernel) (by decide +kernel))) (fun hb => nomatch hb) fun _ H14 e14 => fin _ _ ⟨_, _, _, _, _, _, _, _, _, _, _, _, _, _, rfl, (s13.mono e14).le (by omega)⟩
        · exact absurd z0 z
      · have z0 : agr (g bs ds day) num bl ≠ [] := fun z => by
          have z := eqn.mpr z
          rw [z] at hb
          simp at hb
        rcases hcase with ⟨z, _⟩ | ⟨_, F', ro, hsG, hOG, hrG, fr, hp⟩
        · exact absurd z z0
        refine q_asg (ev_var rfl) fun H14 e14 => ?_
        have e34 := e13.trans e14
        have frG : ∀ b u, H10 b = some u → (∀ ps, u ≠ .tbl ps) → b ≠ o → b ≠ A → G' b = some u := fun b u q n n1 n2 => fr b u (e11 _ _ q) n n1 n2 (fun z => by rw [z, nr] at q; cases q)
        have hRG : G' R = some (.lst (rr.map fun x => V.ref x.1)) := by
          obtain ⟨dx, hi⟩ := s10.hO.inst
          exact frG _ _ (wn_ex _ _ s10.hR) (fun _ z => nomatch z) (fun z => (wn_some hi).1 (.inr z.symm)) s10.nRA
        have hR14 := e34 _ _ hRG
        have lrr : rr.length < 100000 := by
          have z := congrArg List.length s10.eqr
          have z : rr.length = rl.length := by simpa using z
          have := s10.nrl
          omega
        refine q_appU (ys := [.str word, .int (day : Int), .int num]) hR14 (ev_var rfl) (eu_tup (ea_cons (ev_var rfl) (ea_cons (ev_var rfl) (ea_cons (ev_var rfl) ea_nil))) (by show 3 ≤ 100000; decide)) (by rw [List.length_map]; exact lrr) fun q H15 nq e15 h15 => ?_
        have eG15 := e34.trans e15
        have nqG : G' q = none := fresh_back e34 nq
        obtain ⟨dxG, hiG⟩ := hOG.inst
        have neqR : q ≠ R := fun z => by rw [z, hRG] at nqG; cases nqG
        have nqM : ¬ M4 h l o A R q := by
          rintro (z | z | z | z)
          · exact hsG.kn q z nqG
          · rw [z, wn_ex _ _ hiG] at nqG; cases nqG
          · rw [z, wn_ex _ _ hOG.hA] at nqG; cases nqG
          · exact neqR z
        have nRh : ¬ hl h l R := (wn_some s10.hR).1
        have hs15 := hsG.mono eG15
        have keepS : ∀ {b : Addr} {u : HO}, G' b = some u → b ≠ R → upd H15 R (.lst ((rr.map fun x => V.ref x.1) ++ [.ref q])) b = some u := fun z n => (upd_ne n).trans (eG15 _ _ z)
        have hS0 : upd H15 R (.lst ((rr.map fun x => V.ref x.1) ++ [.ref q])) R = some (.lst ((rr.map fun x => V.ref x.1) ++ [.ref q])) := upd_same
        have hq0 : upd H15 R (.lst ((rr.map fun x => V.ref x.1) ++ [.ref q])) q = some (.tup [.str word, .int (day : Int), .int num]) := (upd_ne neqR).trans h15
        generalize upd H15 R (.lst ((rr.map fun x => V.ref x.1) ++ [.ref q])) = S at keepS hS0 hq0 ⊢
        have sS := s10.see (S := S) (Y := Y) (F' := F') (ro := ro) (r := q) hw hd hn10 z0 (by
            obtain ⟨m, cells, idx, a1, a2, rest⟩ := hsG
            exact ⟨m, cells, idx, keepS a1 (fun z => nRh (.inl z.symm)), keepS a2 (fun z => nRh (.inr z.symm)), rest⟩)
          (fun p' hp' => by
            obtain ⟨ps, a1, a2, a3⟩ := tb' p' hp'
            refine ⟨ps, keepS a1 (fun z => by rw [z, hRG] at a1; cases a1), a2, fun pos cv hcv => ?_⟩
            obtain ⟨c, b1, b2⟩ := a3 pos cv hcv
            exact ⟨c, b1, keepS b2 (fun z => by rw [z, hRG] at b2; unfold CodeO at b2; cases b2)⟩)
          (hOG.mono fun b u q' => by
            obtain ⟨m, q1⟩ := wn_some q'
            rw [wn_ni fun z => m (.inr z)]
            exact keepS q1 (fun z => m (.inr (.inr z))))
          (by rw [List.map_append]; exact hS0) hq0 nqM (keepS hY' kYR) (by
            rintro (z | z | z | z)
            · exact nYh z
            · exact kYo z
            · exact kYA z
            · exact kYR z) (fun b u q' n n1 n2 n3 => keepS (frG b u q' n n1 n2) n3)
        have lel : (agr (g bs ds day) num bl).length = (agr (g bs ds day) num el).length := by
          have z := congrArg List.length sS.hL
          simpa using z.symm
        exact s_when (b := false) (et_is (et_or (et_test (ev_neStr rfl (ev_var rfl) (st_of (keepS hp (fun z => by rw [z, hRG] at hp; cases hp))) (by decide +kernel) (by decide +kernel))) fun _ => et_test (ev_neLenL (ev_var rfl) (sq_of (keepS hrG krR)) (Ev.int_eq (ev_len (ev_var rfl) (sq_of (keepS hY' kYR))) (by rw [List.length_map])) lel)) (by rfl)) (fun hb => nomatch hb) fun _ H16 e16 => fin _ _ ⟨_, _, _, _, _, _, _, _, _, _, _, _, _, _, rfl, sS.mono e16⟩
      rintro σ' H17 ⟨X, el, F, bl, rl, rr, _, _, _, _, _, _, _, _, rfl, s17⟩
      have nb7 := s17.hO.nb
      have le7 : el.length = bl.length := by
        have z := congrArg List.length s17.hL
        simpa using z
      obtain ⟨Lv, hLv⟩ : ∃ Lv : List Int, Lv = bl.map (·.2) := ⟨_, rfl⟩
      refine q_when (b := false) (et_not (a := true) (et_B (ev_alk9 (K := K) (ns := Lv) (as := rl) (bs := rr) (eu_eqX (eu_lives (ev_var rfl) (s17.hO.mono wn_ex)) (by rw [hLv])) (el_recs (ev_var rfl) (s17.hO.mono wn_ex)) (eu_eqX (eu_tupL (K := K) (el_livesL (ev_var rfl) s17.hX (by omega) s17.hE (fun _ => rfl) (fun _ => rfl))) (by rw [s17.hL, hLv])) (ev_var rfl) (sq_of (wn_ex _ _ s17.hR)) (fun x hx => st_of (wn_ex _ _ (s17.hO.rc x hx))) (fun x hx => st_of (wn_ex _ _ (s17.hrr x hx))) s17.eqr.symm (by rw [hLv, List.length_map]; omega) (by have := s17.nrl; omega)))) (fun hb => nomatch hb) fun _ H18 e18 => ?_
      have s18 := s17.mono e18
      have e0 : 0 < el.length := by
        rw [le7]
        exact Nat.pos_of_ne_zero fun z => s17.ne (List.length_eq_zero_iff.mp z)
      obtain ⟨i0, hB0⟩ := s18.hE el[0] (List.getElem_mem e0)
      exact s_when (b := decide (el[0].2 > life) || !decide (life ∈ el.map (·.2))) (et_or (et_test (ev_op (ev_lifeP (ev_ixL (ev_var rfl) (sq_of (wn_ex _ _ s18.hX)) ev_c (atI_nat (j := 0) (by rw [List.getElem?_map, List.getElem?_eq_getElem e0]; rfl))) (hB0.mono wn_ex)) (ev_var rfl) rv_I0)) fun _ => et_test (ev_notInLL (ev_var rfl) (el_livesL (ev_var rfl) s18.hX (by omega) s18.hE (fun _ => rfl) (fun _ => rfl)))) (fun _ H19 e19 => s_ret ev_c fun H20 _ => k H20) (fun _ H19 e19 => ⟨X, el, F, bl, rl, rr, _, _, _, _, _, _, _, _, rfl, s18.mono e19⟩)
    · rintro σ' H8 ⟨X, el, F, bl, rl, rr, _, _, _, _, _, _, _, _, rfl, s8⟩
      have nb8 := s8.hO.nb
      have lrr : rr.length = rl.length := by
        have z := congrArg List.length s8.eqr
        simpa using z
      have le8 : el.length = bl.length := by
        have z := congrArg List.length s8.hL
        simpa using z
      have nrl := s8.nrl
      refine q_ifK (b := !decide ((rr.map fun x => V.ref x.1).length = 0)) (M := fun σ' H' => ∃ F rl x8 x9 x10 x11 x12 x14 x15 x16, σ' = [some (.ref a), some (.ref h), some (.ref pb), some (.ref pd), some (.int life), some (.ref X), some (.ref R), some (.ref tone), x8, x9, x10, x11, x12, some (.ref o), x14, x15, x16] ∧ ObsAt K Z H' o bs ds F A bl rl ∧ SqL K H' X (el.map fun x => V.ref x.1) ∧ ∀ x ∈ el, ∃ i, BakAt K Z H' x.1 bs ds x.2 i)
        (et_test (ev_neE (ev_var rfl) (sq_of (wn_ex _ _ s8.hR)) (el_lst ea_nil (by show 0 ≤ 100000; decide)))) ?_ (fun hb H9 e9 fin => ?_) (fun hb H9 e9 fin => fin _ _ ⟨F, rl, _, _, _, _, _, _, _, _, rfl, s8.hO.mono (wn_ex.trans e9), sq_of (e9 _ _ (wn_ex _ _ s8.hX)), fun x hx => let ⟨i, y⟩ := s8.hE x hx; ⟨i, y.mono (wn_ex.trans e9)⟩⟩)
      · rintro σ' H9 ⟨F, rl, _, _, _, _, _, _, _, _, rfl, hO9, hX9, hE9⟩
        exact s_ret (ev_call (ea_cons (ev_var rfl) (ea_cons (ev_var rfl) ea_nil)) fun G e Q q _ => ⟨o, X, bs, ds, F, A, bl, rl, el, rfl, hO9.mono e, s8.ne, ex_l e hX9, fun x hx => let ⟨i, y⟩ := hE9 x hx; ⟨i, y.mono e⟩, s8.hL, q⟩) fun H10 _ => k H10
      · have s9 := s8.mono e9
        have rne : rl ≠ [] := fun z => by
          have z1 : rr.length = 0 := by rw [lrr, z]; rfl
          simp [z1] at hb
        rcases s9.last with z | ⟨rl0, ro, word, g, day, num, erl, hw, hd, hn, hall⟩
        · exact absurd z rne
        -- the last record
        obtain ⟨rr0, rx, err⟩ : ∃ rr0 rx, rr = rr0 ++ [(rx, (word, (day : Int), num))] := by
          have ez := s9.eqr
          rw [erl, List.map_append] at ez
          have nn : rr ≠ [] := fun z => by rw [z] at ez; simp at ez
          refine ⟨rr.dropLast, (rr.getLast nn).1, ?_⟩
          have e1 := List.dropLast_concat_getLast nn
          have e2 : (rr.getLast nn).2 = (word, (day : Int), num) := by
            have z := congrArg List.getLast? ez
            rw [List.getLast?_append, List.getLast?_map, List.getLast?_eq_some_getLast nn] at z
            simpa using z
          conv => lhs; rw [← e1]
          rw [← e2]
        have hRx : wn H9 (M4 h l o A R) rx = some (.tup [.str word, .int (day : Int), .int num]) := s9.hrr (rx, (word, (day : Int), num)) (by rw [err]; simp)
        have hR9 := s9.hR
        have ixn : atI (rr.map fun x => V.ref x.1) (-1) = some (.ref rx) := by rw [err, List.map_append]; exact atI_last
        refine q_un3L (ev_ixL (ev_var rfl) (sq_of (wn_ex _ _ hR9)) (ev_un ev_c ru_neg) ixn) (st_of (wn_ex _ _ hRx)) fun H10 e10 => ?_
        have s10 := s9.mono e10
        have agb : agr (g bs ds day) num bl = bl := List.filter_eq_self.mpr fun x hx => by simpa using hall x hx
        have hR10 := s10.hR
        have nRo : R ≠ o := fun z => by
          obtain ⟨dx, hi⟩ := s10.hO.inst
          exact (wn_some hi).1 (.inr z.symm)
        refine s_seenIf (K := K) (Z := Z) (o := o) (F := F) (A := A) (bs := bs) (ds := ds) (bl := bl) (rl := rl) (word := word) (g := g) (day := day) (num := num) (N := hlR h l R) (H := H10) (ea_cons (ev_var rfl) (ea_cons (ev_var rfl) (ea_cons (ev_var rfl) (ea_cons (ev_var rfl) ea_nil)))) hw hd s10.hO (by omega) (fun b hb => ?_) (by rw [agb]; exact s10.ne) fun H11 ⟨F', ro', hO11, fr⟩ => ?_
        · rcases hb with z | z
          · exact s10.hs.kn b z
          · rw [z, wn_ex _ _ hR10]; exact fun q => nomatch q
        have frX : ∀ b u, wn H10 (M4 h l o A R) b = some u → H11 b = some u := fun b u q => by
          obtain ⟨m, q1⟩ := wn_some q
          exact fr b u q1 (fun z => m (.inr (.inl z))) (fun z => m (.inr (.inr (.inl z))))
        refine ⟨?_, ?_, fun H12 e12 => ?_⟩
        · have hX11 := frX X _ s10.hX
          rw [agb]
          exact Ev.int_eq (ev_len (ev_var rfl) (sq_of hX11)) (by rw [List.length_map]; exact congrArg Int.ofNat le8)
        · have hR11 : H11 R = some (.lst ((rr0 ++ [(rx, (word, (day : Int), num))]).map fun x => V.ref x.1)) := by
            rw [← err]
            exact fr _ _ (wn_ex _ _ hR10) (fun z => nRo z) s10.nRA
          refine et_test (ev_neRec (as := rl ++ [(ro', (word, (day : Int), num))]) (bs := rr ++ [(rx, (word, (day : Int), num))]) (el_recs (ev_var rfl) (hO11.mono wn_ex)) (el_eq (el_cat (ev_var rfl) hR11 (el_last (x := .ref rx) (ev_var rfl) (sq_of (by rw [hR11, List.map_append]; rfl)) (ev_un ev_c ru_neg)) (by rw [← err, List.length_map]; show rr.length + 1 ≤ 100000; omega)) (by rw [← err, List.map_append]; rfl)) (fun x hx => st_of (wn_ex _ _ (hO11.rc x hx))) (fun x hx => ?_) (by rw [List.map_append, List.map_append, s10.eqr]; rfl) (fun x hx => ?_))
          · rcases List.mem_append.mp hx with z | z
            · exact st_of (frX _ _ (s10.hrr x z))
            · rw [List.mem_singleton.mp z]; exact st_of (frX _ _ ((wn_mono e10) _ _ hRx))
          · rw [List.map_append] at hx
            rcases List.mem_append.mp hx with z | z
            · exact s10.ws x (by rw [← s10.eqr]; exact z)
            · have ex : x = (word, (day : Int), num) := by simpa using z
              exact s10.ws x (by rw [ex, erl]; simp)
        · exact fin _ _ ⟨F', _, _, _, _, _, _, _, _, _, rfl, by rw [agb] at hO11; exact hO11.mono (wn_ex.trans e12), sq_of (e12 _ _ (frX X _ s10.hX)), fun x hx => let ⟨i, y⟩ := s10.hE x hx; ⟨i, y.mono (fun b u q => e12 _ _ (frX b u q))⟩⟩
end Sw
namespace Sw
open PySem PySem.Spec PyProof.Rows L2 Evl
theorem all_mk {l : PySem.W.OpenLaw} {w : World} {K : PySem.W.Frag} {h : Heap} {mg : Str → Option Value} {fa c_Course c_Bakery c_LifeObserver c_LoafError c_InvalidBakery c_InvalidNumber c_InvalidDays c_Contradiction f_InvalidBakery___init__ ka_InvalidBakery___init__ cc_InvalidBakery___init__ f_InvalidDays___init__ ka_InvalidDays___init__ cc_InvalidDays___init__ f_check_number f_count_keepable f_Course___init__ f_Course_stock_at f_Course_sales_on f_Course_find_settled f_Course_sum_settled_round f_Course__play_round f_Course__stocks_in f_Course__misses_in f_Course__count_growing f_check_amounts f_check_life f_check_bakery f_Bakery___init__ f_Bakery_bakes pr_Bakery_bakes f_Bakery_life pr_Bakery_life f_Bakery_stock f_Bakery_sold f_Bakery_thrown f_LifeObserver___init__ f_LifeObserver_possible_lives pr_LifeObserver_possible_lives f_LifeObserver_records pr_LifeObserver_records f_LifeObserver_see_sold f_LifeObserver_see_thrown f_LifeObserver_see_stock f_LifeObserver_telling_day f_LifeObserver__accept f__law_mix f__law_next f__law_alike f__law_error f__law_amounts f__law_parts f__law_number f__law_seen f__law_telling_right f_law ka_law tb_law : Addr} (X : K.In h) (G : h.Ns mainGlobals mg) (hfa : mg "law" = some (.ref fa))
    {tk_cv_Bakery_MAX_DAYS : Tok}
    {tk_cv_Bakery_MAX_LIFE : Tok}
    {t_MOST_LOAVES : Tok}
    {t_LAST_DAY : Tok}
    {od_InvalidBakery___init__ an_InvalidBakery___init__ : Option Addr} {sl_InvalidBakery___init__ : Array (Option Value)} {oc_InvalidBakery___init__ kV_InvalidBakery___init__ dc_InvalidBakery___init__ pm_InvalidBakery___init__ ct_InvalidBakery___init__ : Value}
    {oe_InvalidBakery___init__ ol_InvalidBakery___init__ : Value} {oo_InvalidBakery___init__ om_InvalidBakery___init__ : Option Addr} {vc_InvalidBakery___init__ : Array Value} {os_InvalidBakery___init__ ot_InvalidBakery___init__ : Array (Option Value)} {file_InvalidBakery___init__ : Str} {tf_InvalidBakery___init__ : Tok}
    {nm_InvalidBakery q_InvalidBakery : Str} {N_InvalidBakery : Addr} {bs_InvalidBakery bm_InvalidBakery : List Value} {sn_InvalidBakery : List Str} {sub_InvalidBakery : List Value} {ab_InvalidBakery : Bool} {col_InvalidBakery : Option Bool} {dd_InvalidBakery : Option Addr} {m0_InvalidBakery m1_InvalidBakery m2_InvalidBakery m3_InvalidBakery m5_InvalidBakery : Option Value}
    {od_InvalidDays___init__ an_InvalidDays___init__ : Option Addr} {sl_InvalidDays___init__ : Array (Option Value)} {oc_InvalidDays___init__ kV_InvalidDays___init__ dc_InvalidDays___init__ pm_InvalidDays___init__ ct_InvalidDays___init__ : Value}
    {oe_InvalidDays___init__ ol_InvalidDays___init__ : Value} {oo_InvalidDays___init__ om_InvalidDays___init__ : Option Addr} {vc_InvalidDays___init__ : Array Value} {os_InvalidDays___init__ ot_InvalidDays___init__ : Array (Option Value)} {file_InvalidDays___init__ : Str} {tf_InvalidDays___init__ : Tok}
    {nm_InvalidDays q_InvalidDays : Str} {N_InvalidDays : Addr} {bs_InvalidDays bm_InvalidDays : List Value} {sn_InvalidDays : List Str} {sub_InvalidDays : List Value} {ab_InvalidDays : Bool} {col_InvalidDays : Option Bool} {dd_InvalidDays : Option Addr} {m0_InvalidDays m1_InvalidDays m2_InvalidDays m3_InvalidDays m5_InvalidDays : Option Value}
    {od_check_number an_check_number : Option Addr} {sl_check_number : Array (Option Value)} {oc_check_number kV_check_number dc_check_number pm_check_number cd_check_number ct_check_number : Value}
    {od_count_keepable an_count_keepable : Option Addr} {sl_count_keepable : Array (Option Value)} {oc_count_keepable kV_count_keepable dc_count_keepable pm_count_keepable cd_count_keepable ct_count_keepable : Value}
    {od_Course___init__ an_Course___init__ : Option Addr} {sl_Course___init__ : Array (Option Value)} {oc_Course___init__ kV_Course___init__ dc_Course___init__ pm_Course___init__ cd_Course___init__ ct_Course___init__ : Value}
    {od_Course_stock_at an_Course_stock_at : Option Addr} {sl_Course_stock_at : Array (Option Value)} {oc_Course_stock_at kV_Course_stock_at dc_Course_stock_at pm_Course_stock_at cd_Course_stock_at ct_Course_stock_at : Value}
    {od_Course_sales_on an_Course_sales_on : Option Addr} {sl_Course_sales_on : Array (Option Value)} {oc_Course_sales_on kV_Course_sales_on dc_Course_sales_on pm_Course_sales_on cd_Course_sales_on ct_Course_sales_on : Value}
    {od_Course_find_settled an_Course_find_settled : Option Addr} {sl_Course_find_settled : Array (Option Value)} {oc_Course_find_settled kV_Course_find_settled dc_Course_find_settled pm_Course_find_settled cd_Course_find_settled ct_Course_find_settled : Value}
    {od_Course_sum_settled_round an_Course_sum_settled_round : Option Addr} {sl_Course_sum_settled_round : Array (Option Value)} {oc_Course_sum_settled_round kV_Course_sum_settled_round dc_Course_sum_settled_round pm_Course_sum_settled_round cd_Course_sum_settled_round ct_Course_sum_settled_round : Value}
    {od_Course__play_round an_Course__play_round : Option Addr} {sl_Course__play_round : Array (Option Value)} {oc_Course__play_round kV_Course__play_round dc_Course__play_round pm_Course__play_round cd_Course__play_round ct_Course__play_round : Value}
    {od_Course__stocks_in an_Course__stocks_in : Option Addr} {sl_Course__stocks_in : Array (Option Value)} {oc_Course__stocks_in kV_Course__stocks_in dc_Course__stocks_in pm_Course__stocks_in cd_Course__stocks_in ct_Course__stocks_in : Value}
    {od_Course__misses_in an_Course__misses_in : Option Addr} {sl_Course__misses_in : Array (Option Value)} {oc_Course__misses_in kV_Course__misses_in dc_Course__misses_in pm_Course__misses_in cd_Course__misses_in ct_Course__misses_in : Value}
    {od_Course__count_growing an_Course__count_growing : Option Addr} {sl_Course__count_growing : Array (Option Value)} {oc_Course__count_growing kV_Course__count_growing dc_Course__count_growing pm_Course__count_growing cd_Course__count_growing ct_Course__count_growing : Value}
    {od_check_amounts an_check_amounts : Option Addr} {sl_check_amounts : Array (Option Value)} {oc_check_amounts kV_check_amounts dc_check_amounts pm_check_amounts cd_check_amounts ct_check_amounts : Value}
    {od_check_life an_check_life : Option Addr} {sl_check_life : Array (Option Value)} {oc_check_life kV_check_life dc_check_life pm_check_life cd_check_life ct_check_life : Value}
    {od_check_bakery an_check_bakery : Option Addr} {sl_check_bakery : Array (Option Value)} {oc_check_bakery kV_check_bakery dc_check_bakery pm_check_bakery cd_check_bakery ct_check_bakery : Value}
    {od_Bakery___init__ an_Bakery___init__ : Option Addr} {sl_Bakery___init__ : Array (Option Value)} {oc_Bakery___init__ kV_Bakery___init__ dc_Bakery___init__ pm_Bakery___init__ cd_Bakery___init__ ct_Bakery___init__ : Value}
    {od_Bakery_bakes an_Bakery_bakes : Option Addr} {sl_Bakery_bakes : Array (Option Value)} {oc_Bakery_bakes kV_Bakery_bakes dc_Bakery_bakes pm_Bakery_bakes cd_Bakery_bakes ct_Bakery_bakes : Value}
    {rs_Bakery_bakes : List Value}
    {od_Bakery_life an_Bakery_life : Option Addr} {sl_Bakery_life : Array (Option Value)} {oc_Bakery_life kV_Bakery_life dc_Bakery_life pm_Bakery_life cd_Bakery_life ct_Bakery_life : Value}
    {rs_Bakery_life : List Value}
    {od_Bakery_stock an_Bakery_stock : Option Addr} {sl_Bakery_stock : Array (Option Value)} {oc_Bakery_stock kV_Bakery_stock dc_Bakery_stock pm_Bakery_stock cd_Bakery_stock ct_Bakery_stock : Value}
    {od_Bakery_sold an_Bakery_sold : Option Addr} {sl_Bakery_sold : Array (Option Value)} {oc_Bakery_sold kV_Bakery_sold dc_Bakery_sold pm_Bakery_sold cd_Bakery_sold ct_Bakery_sold : Value}
    {od_Bakery_thrown an_Bakery_thrown : Option Addr} {sl_Bakery_thrown : Array (Option Value)} {oc_Bakery_thrown kV_Bakery_thrown dc_Bakery_thrown pm_Bakery_thrown cd_Bakery_thrown ct_Bakery_thrown : Value}
    {od_LifeObserver___init__ an_LifeObserver___init__ : Option Addr} {sl_LifeObserver___init__ : Array (Option Value)} {oc_LifeObserver___init__ kV_LifeObserver___init__ dc_LifeObserver___init__ pm_LifeObserver___init__ cd_LifeObserver___init__ ct_LifeObserver___init__ : Value}
    {od_LifeObserver_possible_lives an_LifeObserver_possible_lives : Option Addr} {sl_LifeObserver_possible_lives : Array (Option Value)} {oc_LifeObserver_possible_lives kV_LifeObserver_possible_lives dc_LifeObserver_possible_lives pm_LifeObserver_possible_lives cd_LifeObserver_possible_lives ct_LifeObserver_possible_lives : Value}
    {rs_LifeObserver_possible_lives : List Value}
    {od_LifeObserver_records an_LifeObserver_records : Option Addr} {sl_LifeObserver_records : Array (Option Value)} {oc_LifeObserver_records kV_LifeObserver_records dc_LifeObserver_records pm_LifeObserver_records cd_LifeObserver_records ct_LifeObserver_records : Value}
    {rs_LifeObserver_records : List Value}
    {od_LifeObserver_see_sold an_LifeObserver_see_sold : Option Addr} {sl_LifeObserver_see_sold : Array (Option Value)} {oc_LifeObserver_see_sold kV_LifeObserver_see_sold dc_LifeObserver_see_sold pm_LifeObserver_see_sold cd_LifeObserver_see_sold ct_LifeObserver_see_sold : Value}
    {od_LifeObserver_see_thrown an_LifeObserver_see_thrown : Option Addr} {sl_LifeObserver_see_thrown : Array (Option Value)} {oc_LifeObserver_see_thrown kV_LifeObserver_see_thrown dc_LifeObserver_see_thrown pm_LifeObserver_see_thrown cd_LifeObserver_see_thrown ct_LifeObserver_see_thrown : Value}
    {od_LifeObserver_see_stock an_LifeObserver_see_stock : Option Addr} {sl_LifeObserver_see_stock : Array (Option Value)} {oc_LifeObserver_see_stock kV_LifeObserver_see_stock dc_LifeObserver_see_stock pm_LifeObserver_see_stock cd_LifeObserver_see_stock ct_LifeObserver_see_stock : Value}
    {od_LifeObserver_telling_day an_LifeObserver_telling_day : Option Addr} {sl_LifeObserver_telling_day : Array (Option Value)} {oc_LifeObserver_telling_day kV_LifeObserver_telling_day dc_LifeObserver_telling_day pm_LifeObserver_telling_day cd_LifeObserver_telling_day ct_LifeObserver_telling_day : Value}
    {od_LifeObserver__accept an_LifeObserver__accept : Option Addr} {sl_LifeObserver__accept : Array (Option Value)} {oc_LifeObserver__accept kV_LifeObserver__accept dc_LifeObserver__accept pm_LifeObserver__accept cd_LifeObserver__accept ct_LifeObserver__accept : Value}
    {od__law_mix an__law_mix : Option Addr} {sl__law_mix : Array (Option Value)} {oc__law_mix kV__law_mix dc__law_mix pm__law_mix cd__law_mix ct__law_mix : Value}
    {od__law_next an__law_next : Option Addr} {sl__law_next : Array (Option Value)} {oc__law_next kV__law_next dc__law_next pm__law_next cd__law_next ct__law_next : Value}
    {od__law_alike an__law_alike : Option Addr} {sl__law_alike : Array (Option Value)} {oc__law_alike kV__law_alike dc__law_alike pm__law_alike cd__law_alike ct__law_alike : Value}
    {od__law_error an__law_error : Option Addr} {sl__law_error : Array (Option Value)} {oc__law_error kV__law_error dc__law_error pm__law_error cd__law_error ct__law_error : Value}
    {od__law_amounts an__law_amounts : Option Addr} {sl__law_amounts : Array (Option Value)} {oc__law_amounts kV__law_amounts dc__law_amounts pm__law_amounts cd__law_amounts ct__law_amounts : Value}
    {od__law_parts an__law_parts : Option Addr} {sl__law_parts : Array (Option Value)} {oc__law_parts kV__law_parts dc__law_parts pm__law_parts cd__law_parts ct__law_parts : Value}
    {od__law_number an__law_number : Option Addr} {sl__law_number : Array (Option Value)} {oc__law_number kV__law_number dc__law_number pm__law_number cd__law_number ct__law_number : Value}
    {od__law_seen an__law_seen : Option Addr} {sl__law_seen : Array (Option Value)} {oc__law_seen kV__law_seen dc__law_seen pm__law_seen cd__law_seen ct__law_seen : Value}
    {od__law_telling_right an__law_telling_right : Option Addr} {sl__law_telling_right : Array (Option Value)} {oc__law_telling_right kV__law_telling_right dc__law_telling_right pm__law_telling_right cd__law_telling_right ct__law_telling_right : Value}
    {od_law an_law : Option Addr} {sl_law : Array (Option Value)} {oc_law kV_law dc_law pm_law ct_law : Value}
    {oe_law : Value} {oo_law : Option Addr} {vc_law : Array Value} {os_law : Array (Option Value)}
    (g_Course : PySem.W.nsIn K mainGlobals "Course" = some (some (.ref c_Course)))
    (pg_Course : PySem.W.plainGet K c_Course Str.empty = true)
    (hd_Course : PySem.W.hasDictIn K c_Course = true)
    (po_Course : PySem.W.plainOver K c_Course = true)
    (sa_Course : PySem.W.findIn K (.ref c_Course) "__setattr__" = some (some (.builtin "object.__setattr__")))
    (mk_Course : PySem.W.makesIn K c_Course = true)
    (kc_Course : PySem.W.keepIn K (.ref c_Course) = true)
    (g_Bakery : PySem.W.nsIn K mainGlobals "Bakery" = some (some (.ref c_Bakery)))
    (pg_Bakery : PySem.W.plainGet K c_Bakery Str.empty = true)
    (hd_Bakery : PySem.W.hasDictIn K c_Bakery = true)
    (po_Bakery : PySem.W.plainOver K c_Bakery = true)
    (sa_Bakery : PySem.W.findIn K (.ref c_Bakery) "__setattr__" = some (some (.builtin "object.__setattr__")))
    (mk_Bakery : PySem.W.makesIn K c_Bakery = true)
    (kc_Bakery : PySem.W.keepIn K (.ref c_Bakery) = true)
    (g_LifeObserver : PySem.W.nsIn K mainGlobals "LifeObserver" = some (some (.ref c_LifeObserver)))
    (pg_LifeObserver : PySem.W.plainGet K c_LifeObserver Str.empty = true)
    (hd_LifeObserver : PySem.W.hasDictIn K c_LifeObserver = true)
    (po_LifeObserver : PySem.W.plainOver K c_LifeObserver = true)
    (sa_LifeObserver : PySem.W.findIn K (.ref c_LifeObserver) "__setattr__" = some (some (.builtin "object.__setattr__")))
    (mk_LifeObserver : PySem.W.makesIn K c_LifeObserver = true)
    (kc_LifeObserver : PySem.W.keepIn K (.ref c_LifeObserver) = true)
    (na_Course__bakes : PySem.W.findIn K (.ref c_Course) "_bakes" = some none)
    (na_Course__demands : PySem.W.findIn K (.ref c_Course) "_demands" = some none)
    (na_Course__keepable : PySem.W.findIn K (.ref c_Course) "_keepable" = some none)
    (na_Course__gain : PySem.W.findIn K (.ref c_Course) "_gain" = some none)
    (na_Course__first_end : PySem.W.findIn K (.ref c_Course) "_first_end" = some none)
    (na_Course__full_end : PySem.W.findIn K (.ref c_Course) "_full_end" = some none)
    (na_Course__first_misses : PySem.W.findIn K (.ref c_Course) "_first_misses" = some none)
    (na_Course__later_misses : PySem.W.findIn K (.ref c_Course) "_later_misses" = some none)
    (na_Bakery__bakes : PySem.W.findIn K (.ref c_Bakery) "_bakes" = some none)
    (na_Bakery__demands : PySem.W.findIn K (.ref c_Bakery) "_demands" = some none)
    (na_Bakery__life : PySem.W.findIn K (.ref c_Bakery) "_life" = some none)
    (na_Bakery_course : PySem.W.findIn K (.ref c_Bakery) "course" = some none)
    (na_Bakery__settled_day : PySem.W.findIn K (.ref c_Bakery) "_settled_day" = some none)
    (na_Bakery__long_run : PySem.W.findIn K (.ref c_Bakery) "_long_run" = some none)
    (rd_Bakery : PySem.W.readsIn K c_Bakery (.type "type") = true)
    (gt_Bakery : PySem.W.specialIn K (.ref c_Bakery) "__getattribute__" = some (some (.builtin "type.__getattribute__")))
    (cv_Bakery_MAX_DAYS : PySem.W.findCls K (.ref c_Bakery) (.type "type") "MAX_DAYS" = some (.val (.int 24 tk_cv_Bakery_MAX_DAYS)))
    (cv_Bakery_MAX_LIFE : PySem.W.findCls K (.ref c_Bakery) (.type "type") "MAX_LIFE" = some (.val (.int 30 tk_cv_Bakery_MAX_LIFE)))
    (na_LifeObserver__fitting : PySem.W.findIn K (.ref c_LifeObserver) "_fitting" = some none)
    (na_LifeObserver__accepted : PySem.W.findIn K (.ref c_LifeObserver) "_accepted" = some none)
    (g_MOST_LOAVES : PySem.W.nsIn K mainGlobals "MOST_LOAVES" = some (some (.int 1000000000 t_MOST_LOAVES)))
    (g_LAST_DAY : PySem.W.nsIn K mainGlobals "LAST_DAY" = some (some (.int 1000000000000000000 t_LAST_DAY)))
    (b_ValueError : PySem.W.nsIn K mainGlobals "ValueError" = some none)
    (b_bool : PySem.W.nsIn K mainGlobals "bool" = some none)
    (b_dict : PySem.W.nsIn K mainGlobals "dict" = some none)
    (b_divmod : PySem.W.nsIn K mainGlobals "divmod" = some none)
    (b_enumerate : PySem.W.nsIn K mainGlobals "enumerate" = some none)
    (b_int : PySem.W.nsIn K mainGlobals "int" = some none)
    (b_isinstance : PySem.W.nsIn K mainGlobals "isinstance" = some none)
    (b_len : PySem.W.nsIn K mainGlobals "len" = some none)
    (b_list : PySem.W.nsIn K mainGlobals "list" = some none)
    (b_max : PySem.W.nsIn K mainGlobals "max" = some none)
    (b_min : PySem.W.nsIn K mainGlobals "min" = some none)
    (b_range : PySem.W.nsIn K mainGlobals "range" = some none)
    (b_str : PySem.W.nsIn K mainGlobals "str" = some none)
    (b_sum : PySem.W.nsIn K mainGlobals "sum" = some none)
    (b_super : PySem.W.nsIn K mainGlobals "super" = some none)
    (b_tuple : PySem.W.nsIn K mainGlobals "tuple" = some none)
    (b_zip : PySem.W.nsIn K mainGlobals "zip" = some none)
    (g_LoafError : PySem.W.nsIn K mainGlobals "LoafError" = some (some (.ref c_LoafError)))
    (g_InvalidBakery : PySem.W.nsIn K mainGlobals "InvalidBakery" = some (some (.ref c_InvalidBakery)))
    (g_InvalidNumber : PySem.W.nsIn K mainGlobals "InvalidNumber" = some (some (.ref c_InvalidNumber)))
    (g_InvalidDays : PySem.W.nsIn K mainGlobals "InvalidDays" = some (some (.ref c_InvalidDays)))
    (g_Contradiction : PySem.W.nsIn K mainGlobals "Contradiction" = some (some (.ref c_Contradiction)))
    (xe_base : PySem.W.subIn K (.ref c_LoafError) (.type "BaseException") = some true)
    (xe_dict : PySem.W.hasDictIn K c_LoafError = true)
    (xe_type : PySem.W.typeIn K (.ref c_LoafError) = some (.type "type"))
    (xe_any : PySem.W.nsIn K cStatics "thirdparty.any" = some none)
    (xe_top : (l.prog.main.scope.names.lookup ("super" : Str)).isSome = false)
    (xe_cg : PySem.W.specialIn K (.builtin "object.__class__") "__get__" = some (some (.builtin "getset_descriptor.__get__")))
    (xe_ct : PySem.W.takesIn K (.builtin "object.__class__") = some true)
    (xp_InvalidNumber : PySem.W.excIn K c_InvalidNumber [.type "ValueError", .type "Exception", .type "BaseException", .type "object"] "ValueError.__new__" = true)
    (xq_InvalidNumber : PySem.W.keepIn K (.ref c_InvalidNumber) = true)
    (xb_InvalidNumber : PySem.W.subIn K (.ref c_InvalidNumber) (.type "BaseException") = some true)
    (xy_InvalidNumber : PySem.W.typeIn K (.ref c_InvalidNumber) = some (.type "type"))
    (xv_InvalidNumber : PySem.W.kitOne K (.ref c_InvalidNumber) (.type "ValueError") = some true)
    (xk_InvalidNumber_InvalidBakery : PySem.W.kitOne K (.ref c_InvalidNumber) (.ref c_InvalidBakery) = some false)
    (xk_InvalidNumber_InvalidNumber : PySem.W.kitOne K (.ref c_InvalidNumber) (.ref c_InvalidNumber) = some true)
    (xk_InvalidNumber_InvalidDays : PySem.W.kitOne K (.ref c_InvalidNumber) (.ref c_InvalidDays) = some false)
    (xk_InvalidNumber_Contradiction : PySem.W.kitOne K (.ref c_InvalidNumber) (.ref c_Contradiction) = some false)
    (xhd_InvalidNumber : PySem.W.hasDictIn K c_InvalidNumber = true)
    (xic_InvalidNumber : PySem.W.isClsIn K c_InvalidNumber = true)
    (xga_InvalidNumber : PySem.W.findIn K (.ref c_InvalidNumber) "__getattribute__" = some (some (.builtin "BaseException.__getattribute__")))
    (xgg_InvalidNumber : PySem.W.findIn K (.ref c_InvalidNumber) "__getattr__" = some none)
    (xca_InvalidNumber : PySem.W.findIn K (.ref c_InvalidNumber) "__class__" = some (some (.builtin "object.__class__")))
    (xmo_InvalidNumber : PySem.W.mroIn K c_InvalidNumber (.type "object") = some true)
    (sL_InvalidNumber : PySem.W.subIn K (.ref c_InvalidNumber) (.ref c_LoafError) = some true)
    (xp_Contradiction : PySem.W.excIn K c_Contradiction [.type "ValueError", .type "Exception", .type "BaseException", .type "object"] "ValueError.__new__" = true)
    (xq_Contradiction : PySem.W.keepIn K (.ref c_Contradiction) = true)
    (xb_Contradiction : PySem.W.subIn K (.ref c_Contradiction) (.type "BaseException") = some true)
    (xy_Contradiction : PySem.W.typeIn K (.ref c_Contradiction) = some (.type "type"))
    (xv_Contradiction : PySem.W.kitOne K (.ref c_Contradiction) (.type "ValueError") = some true)
    (xk_Contradiction_InvalidBakery : PySem.W.kitOne K (.ref c_Contradiction) (.ref c_InvalidBakery) = some false)
    (xk_Contradiction_InvalidNumber : PySem.W.kitOne K (.ref c_Contradiction) (.ref c_InvalidNumber) = some false)
    (xk_Contradiction_InvalidDays : PySem.W.kitOne K (.ref c_Contradiction) (.ref c_InvalidDays) = some false)
    (xk_Contradiction_Contradiction : PySem.W.kitOne K (.ref c_Contradiction) (.ref c_Contradiction) = some true)
    (xhd_Contradiction : PySem.W.hasDictIn K c_Contradiction = true)
    (xic_Contradiction : PySem.W.isClsIn K c_Contradiction = true)
    (xga_Contradiction : PySem.W.findIn K (.ref c_Contradiction) "__getattribute__" = some (some (.builtin "BaseException.__getattribute__")))
    (xgg_Contradiction : PySem.W.findIn K (.ref c_Contradiction) "__getattr__" = some none)
    (xca_Contradiction : PySem.W.findIn K (.ref c_Contradiction) "__class__" = some (some (.builtin "object.__class__")))
    (xmo_Contradiction : PySem.W.mroIn K c_Contradiction (.type "object") = some true)
    (sL_Contradiction : PySem.W.subIn K (.ref c_Contradiction) (.ref c_LoafError) = some true)
    (xL_InvalidBakery : K.lookup c_InvalidBakery = some (excClassObj nm_InvalidBakery q_InvalidBakery c_InvalidBakery N_InvalidBakery bs_InvalidBakery bm_InvalidBakery true sn_InvalidBakery sub_InvalidBakery ab_InvalidBakery col_InvalidBakery dd_InvalidBakery m0_InvalidBakery m1_InvalidBakery m2_InvalidBakery m3_InvalidBakery m5_InvalidBakery "ValueError.__new__"))
    (xr_InvalidBakery : PySem.HandSPX.refsVE bm_InvalidBakery = true)
    (xsa_InvalidBakery : PySem.W.findIn K (.ref c_InvalidBakery) "__setattr__" = some (some (.builtin "object.__setattr__")))
    (xkC_InvalidBakery : PySem.W.keepIn K (.ref c_InvalidBakery) = true)
    (xeC_InvalidBakery : PySem.W.subIn K (.ref c_InvalidBakery) (.type "BaseException") = some true)
    (xtC_InvalidBakery : PySem.W.typeIn K (.ref c_InvalidBakery) = some (.type "type"))
    (xhd_InvalidBakery : PySem.W.hasDictIn K c_InvalidBakery = true)
    (xic_InvalidBakery : PySem.W.isClsIn K c_InvalidBakery = true)
    (xga_InvalidBakery : PySem.W.findIn K (.ref c_InvalidBakery) "__getattribute__" = some (some (.builtin "BaseException.__getattribute__")))
    (xgg_InvalidBakery : PySem.W.findIn K (.ref c_InvalidBakery) "__getattr__" = some none)
    (xca_InvalidBakery : PySem.W.findIn K (.ref c_InvalidBakery) "__class__" = some (some (.builtin "object.__class__")))
    (xmo_InvalidBakery : PySem.W.mroIn K c_InvalidBakery (.type "object") = some true)
    (xi_InvalidBakery : PySem.W.findIn K (.ref c_InvalidBakery) "__init__" = some (some (.ref f_InvalidBakery___init__)))
    (xt_InvalidBakery : PySem.W.typeIn K (.ref f_InvalidBakery___init__) = some (.type "function"))
    (l_InvalidBakery___init__ : K.lookup f_InvalidBakery___init__ = some ⟨oc_InvalidBakery___init__, od_InvalidBakery___init__, .func (PySem.W.ksFn "__init__" "InvalidBakery.__init__" (defArgs s_InvalidBakery___init__) (defBody s_InvalidBakery___init__) (defScope s_InvalidBakery___init__) .none kV_InvalidBakery___init__ dc_InvalidBakery___init__ pm_InvalidBakery___init__ an_InvalidBakery___init__ (.ref ka_InvalidBakery___init__) ct_InvalidBakery___init__ cc_InvalidBakery___init__), sl_InvalidBakery___init__⟩)
    (q_InvalidBakery___init__ : PySem.W.codeIn K (.ref ka_InvalidBakery___init__) "InvalidBakery.__init__" = true)
    (lk_InvalidBakery___init__ : K.lookup ka_InvalidBakery___init__ = some ⟨oe_InvalidBakery___init__, oo_InvalidBakery___init__, .fields vc_InvalidBakery___init__, os_InvalidBakery___init__⟩)
    (vf_InvalidBakery___init__ : vc_InvalidBakery___init__[2]? = some (.str file_InvalidBakery___init__ tf_InvalidBakery___init__))
    (fi_InvalidBakery___init__ : ((l.prog.main.file : Str) == file_InvalidBakery___init__) = true)
    (ce_InvalidBakery___init__ : K.lookup cc_InvalidBakery___init__ = some ⟨ol_InvalidBakery___init__, om_InvalidBakery___init__, .cell (some (.ref c_InvalidBakery)), ot_InvalidBakery___init__⟩)
    (su_InvalidBakery___init__ : PySem.W.ks_superIn K c_InvalidBakery c_InvalidBakery "__init__" = some (some (.builtin "ValueError.__init__")))
    (sb_InvalidBakery___init__ : PySem.W.mroIn K c_InvalidBakery (.ref c_InvalidBakery) = some true)
    (sv_InvalidBakery___init__ : PySem.W.subIn K (.ref c_InvalidBakery) (.type "ValueError") = some true)
    (sL_InvalidBakery___init__ : PySem.W.subIn K (.ref c_InvalidBakery) (.ref c_LoafError) = some true)
    (xv_InvalidBakery : PySem.W.kitOne K (.ref c_InvalidBakery) (.type "ValueError") = some true)
    (xk_InvalidBakery_InvalidBakery : PySem.W.kitOne K (.ref c_InvalidBakery) (.ref c_InvalidBakery) = some true)
    (xk_InvalidBakery_InvalidNumber : PySem.W.kitOne K (.ref c_InvalidBakery) (.ref c_InvalidNumber) = some false)
    (xk_InvalidBakery_InvalidDays : PySem.W.kitOne K (.ref c_InvalidBakery) (.ref c_InvalidDays) = some false)
    (xk_InvalidBakery_Contradiction : PySem.W.kitOne K (.ref c_InvalidBakery) (.ref c_Contradiction) = some false)
    (na_InvalidBakery_part : PySem.W.findIn K (.ref c_InvalidBakery) "part" = some none)
    (na_InvalidBakery_index : PySem.W.findIn K (.ref c_InvalidBakery) "index" = some none)
    (xL_InvalidDays : K.lookup c_InvalidDays = some (excClassObj nm_InvalidDays q_InvalidDays c_InvalidDays N_InvalidDays bs_InvalidDays bm_InvalidDays true sn_InvalidDays sub_InvalidDays ab_InvalidDays col_InvalidDays dd_InvalidDays m0_InvalidDays m1_InvalidDays m2_InvalidDays m3_InvalidDays m5_InvalidDays "ValueError.__new__"))
    (xr_InvalidDays : PySem.HandSPX.refsVE bm_InvalidDays = true)
    (xsa_InvalidDays : PySem.W.findIn K (.ref c_InvalidDays) "__setattr__" = some (some (.builtin "object.__setattr__")))
    (xkC_InvalidDays : PySem.W.keepIn K (.ref c_InvalidDays) = true)
    (xeC_InvalidDays : PySem.W.subIn K (.ref c_InvalidDays) (.type "BaseException") = some true)
    (xtC_InvalidDays : PySem.W.typeIn K (.ref c_InvalidDays) = some (.type "type"))
    (xhd_InvalidDays : PySem.W.hasDictIn K c_InvalidDays = true)
    (xic_InvalidDays : PySem.W.isClsIn K c_InvalidDays = true)
    (xga_InvalidDays : PySem.W.findIn K (.ref c_InvalidDays) "__getattribute__" = some (some (.builtin "BaseException.__getattribute__")))
    (xgg_InvalidDays : PySem.W.findIn K (.ref c_InvalidDays) "__getattr__" = some none)
    (xca_InvalidDays : PySem.W.findIn K (.ref c_InvalidDays) "__class__" = some (some (.builtin "object.__class__")))
    (xmo_InvalidDays : PySem.W.mroIn K c_InvalidDays (.type "object") = some true)
    (xi_InvalidDays : PySem.W.findIn K (.ref c_InvalidDays) "__init__" = some (some (.ref f_InvalidDays___init__)))
    (xt_InvalidDays : PySem.W.typeIn K (.ref f_InvalidDays___init__) = some (.type "function"))
    (l_InvalidDays___init__ : K.lookup f_InvalidDays___init__ = some ⟨oc_InvalidDays___init__, od_InvalidDays___init__, .func (PySem.W.ksFn "__init__" "InvalidDays.__init__" (defArgs s_InvalidDays___init__) (defBody s_InvalidDays___init__) (defScope s_InvalidDays___init__) .none kV_InvalidDays___init__ dc_InvalidDays___init__ pm_InvalidDays___init__ an_InvalidDays___init__ (.ref ka_InvalidDays___init__) ct_InvalidDays___init__ cc_InvalidDays___init__), sl_InvalidDays___init__⟩)
    (q_InvalidDays___init__ : PySem.W.codeIn K (.ref ka_InvalidDays___init__) "InvalidDays.__init__" = true)
    (lk_InvalidDays___init__ : K.lookup ka_InvalidDays___init__ = some ⟨oe_InvalidDays___init__, oo_InvalidDays___init__, .fields vc_InvalidDays___init__, os_InvalidDays___init__⟩)
    (vf_InvalidDays___init__ : vc_InvalidDays___init__[2]? = some (.str file_InvalidDays___init__ tf_InvalidDays___init__))
    (fi_InvalidDays___init__ : ((l.prog.main.file : Str) == file_InvalidDays___init__) = true)
    (ce_InvalidDays___init__ : K.lookup cc_InvalidDays___init__ = some ⟨ol_InvalidDays___init__, om_InvalidDays___init__, .cell (some (.ref c_InvalidDays)), ot_InvalidDays___init__⟩)
    (su_InvalidDays___init__ : PySem.W.ks_superIn K c_InvalidDays c_InvalidDays "__init__" = some (some (.builtin "ValueError.__init__")))
    (sb_InvalidDays___init__ : PySem.W.mroIn K c_InvalidDays (.ref c_InvalidDays) = some true)
    (sv_InvalidDays___init__ : PySem.W.subIn K (.ref c_InvalidDays) (.type "ValueError") = some true)
    (sL_InvalidDays___init__ : PySem.W.subIn K (.ref c_InvalidDays) (.ref c_LoafError) = some true)
    (xv_InvalidDays : PySem.W.kitOne K (.ref c_InvalidDays) (.type "ValueError") = some true)
    (xk_InvalidDays_InvalidBakery : PySem.W.kitOne K (.ref c_InvalidDays) (.ref c_InvalidBakery) = some false)
    (xk_InvalidDays_InvalidNumber : PySem.W.kitOne K (.ref c_InvalidDays) (.ref c_InvalidNumber) = some false)
    (xk_InvalidDays_InvalidDays : PySem.W.kitOne K (.ref c_InvalidDays) (.ref c_InvalidDays) = some true)
    (xk_InvalidDays_Contradiction : PySem.W.kitOne K (.ref c_InvalidDays) (.ref c_Contradiction) = some false)
    (na_InvalidDays_index : PySem.W.findIn K (.ref c_InvalidDays) "index" = some none)
    (a_check_number : PySem.W.nsIn K mainGlobals "check_number" = some (some (.ref f_check_number)))
    (l_check_number : K.lookup f_check_number = some ⟨oc_check_number, od_check_number, .func (PySem.W.fnOf "check_number" "check_number" (defArgs s_check_number) (defBody s_check_number) (defScope s_check_number) .none kV_check_number dc_check_number pm_check_number an_check_number cd_check_number ct_check_number), sl_check_number⟩)
    (q_check_number : PySem.W.codeIn K cd_check_number "check_number" = true)
    (k_check_number : PySem.W.keepIn K (.ref f_check_number) = true)
    (a_count_keepable : PySem.W.nsIn K mainGlobals "count_keepable" = some (some (.ref f_count_keepable)))
    (l_count_keepable : K.lookup f_count_keepable = some ⟨oc_count_keepable, od_count_keepable, .func (PySem.W.fnOf "count_keepable" "count_keepable" (defArgs s_count_keepable) (defBody s_count_keepable) (defScope s_count_keepable) .none kV_count_keepable dc_count_keepable pm_count_keepable an_count_keepable cd_count_keepable ct_count_keepable), sl_count_keepable⟩)
    (q_count_keepable : PySem.W.codeIn K cd_count_keepable "count_keepable" = true)
    (k_count_keepable : PySem.W.keepIn K (.ref f_count_keepable) = true)
    (a_Course___init__ : PySem.W.findIn K (.ref c_Course) "__init__" = some (some (.ref f_Course___init__)))
    (i_Course___init__ : PySem.W.isFn K (.ref f_Course___init__) = true)
    (l_Course___init__ : K.lookup f_Course___init__ = some ⟨oc_Course___init__, od_Course___init__, .func (PySem.W.fnOf "__init__" "Course.__init__" (defArgs s_Course___init__) (defBody s_Course___init__) (defScope s_Course___init__) .none kV_Course___init__ dc_Course___init__ pm_Course___init__ an_Course___init__ cd_Course___init__ ct_Course___init__), sl_Course___init__⟩)
    (q_Course___init__ : PySem.W.codeIn K cd_Course___init__ "Course.__init__" = true)
    (k_Course___init__ : PySem.W.keepIn K (.ref f_Course___init__) = true)
    (a_Course_stock_at : PySem.W.findIn K (.ref c_Course) "stock_at" = some (some (.ref f_Course_stock_at)))
    (i_Course_stock_at : PySem.W.isFn K (.ref f_Course_stock_at) = true)
    (l_Course_stock_at : K.lookup f_Course_stock_at = some ⟨oc_Course_stock_at, od_Course_stock_at, .func (PySem.W.fnOf "stock_at" "Course.stock_at" (defArgs s_Course_stock_at) (defBody s_Course_stock_at) (defScope s_Course_stock_at) .none kV_Course_stock_at dc_Course_stock_at pm_Course_stock_at an_Course_stock_at cd_Course_stock_at ct_Course_stock_at), sl_Course_stock_at⟩)
    (q_Course_stock_at : PySem.W.codeIn K cd_Course_stock_at "Course.stock_at" = true)
    (k_Course_stock_at : PySem.W.keepIn K (.ref f_Course_stock_at) = true)
    (a_Course_sales_on : PySem.W.findIn K (.ref c_Course) "sales_on" = some (some (.ref f_Course_sales_on)))
    (i_Course_sales_on : PySem.W.isFn K (.ref f_Course_sales_on) = true)
    (l_Course_sales_on : K.lookup f_Course_sales_on = some ⟨oc_Course_sales_on, od_Course_sales_on, .func (PySem.W.fnOf "sales_on" "Course.sales_on" (defArgs s_Course_sales_on) (defBody s_Course_sales_on) (defScope s_Course_sales_on) .none kV_Course_sales_on dc_Course_sales_on pm_Course_sales_on an_Course_sales_on cd_Course_sales_on ct_Course_sales_on), sl_Course_sales_on⟩)
    (q_Course_sales_on : PySem.W.codeIn K cd_Course_sales_on "Course.sales_on" = true)
    (k_Course_sales_on : PySem.W.keepIn K (.ref f_Course_sales_on) = true)
    (a_Course_find_settled : PySem.W.findIn K (.ref c_Course) "find_settled" = some (some (.ref f_Course_find_settled)))
    (i_Course_find_settled : PySem.W.isFn K (.ref f_Course_find_settled) = true)
    (l_Course_find_settled : K.lookup f_Course_find_settled = some ⟨oc_Course_find_settled, od_Course_find_settled, .func (PySem.W.fnOf "find_settled" "Course.find_settled" (defArgs s_Course_find_settled) (defBody s_Course_find_settled) (defScope s_Course_find_settled) .none kV_Course_find_settled dc_Course_find_settled pm_Course_find_settled an_Course_find_settled cd_Course_find_settled ct_Course_find_settled), sl_Course_find_settled⟩)
    (q_Course_find_settled : PySem.W.codeIn K cd_Course_find_settled "Course.find_settled" = true)
    (k_Course_find_settled : PySem.W.keepIn K (.ref f_Course_find_settled) = true)
    (a_Course_sum_settled_round : PySem.W.findIn K (.ref c_Course) "sum_settled_round" = some (some (.ref f_Course_sum_settled_round)))
    (i_Course_sum_settled_round : PySem.W.isFn K (.ref f_Course_sum_settled_round) = true)
    (l_Course_sum_settled_round : K.lookup f_Course_sum_settled_round = some ⟨oc_Course_sum_settled_round, od_Course_sum_settled_round, .func (PySem.W.fnOf "sum_settled_round" "Course.sum_settled_round" (defArgs s_Course_sum_settled_round) (defBody s_Course_sum_settled_round) (defScope s_Course_sum_settled_round) .none kV_Course_sum_settled_round dc_Course_sum_settled_round pm_Course_sum_settled_round an_Course_sum_settled_round cd_Course_sum_settled_round ct_Course_sum_settled_round), sl_Course_sum_settled_round⟩)
    (q_Course_sum_settled_round : PySem.W.codeIn K cd_Course_sum_settled_round "Course.sum_settled_round" = true)
    (k_Course_sum_settled_round : PySem.W.keepIn K (.ref f_Course_sum_settled_round) = true)
    (a_Course__play_round : PySem.W.findIn K (.ref c_Course) "_play_round" = some (some (.ref f_Course__play_round)))
    (i_Course__play_round : PySem.W.isFn K (.ref f_Course__play_round) = true)
    (l_Course__play_round : K.lookup f_Course__play_round = some ⟨oc_Course__play_round, od_Course__play_round, .func (PySem.W.fnOf "_play_round" "Course._play_round" (defArgs s_Course__play_round) (defBody s_Course__play_round) (defScope s_Course__play_round) .none kV_Course__play_round dc_Course__play_round pm_Course__play_round an_Course__play_round cd_Course__play_round ct_Course__play_round), sl_Course__play_round⟩)
    (q_Course__play_round : PySem.W.codeIn K cd_Course__play_round "Course._play_round" = true)
    (k_Course__play_round : PySem.W.keepIn K (.ref f_Course__play_round) = true)
    (a_Course__stocks_in : PySem.W.findIn K (.ref c_Course) "_stocks_in" = some (some (.ref f_Course__stocks_in)))
    (i_Course__stocks_in : PySem.W.isFn K (.ref f_Course__stocks_in) = true)
    (l_Course__stocks_in : K.lookup f_Course__stocks_in = some ⟨oc_Course__stocks_in, od_Course__stocks_in, .func (PySem.W.fnOf "_stocks_in" "Course._stocks_in" (defArgs s_Course__stocks_in) (defBody s_Course__stocks_in) (defScope s_Course__stocks_in) .none kV_Course__stocks_in dc_Course__stocks_in pm_Course__stocks_in an_Course__stocks_in cd_Course__stocks_in ct_Course__stocks_in), sl_Course__stocks_in⟩)
    (q_Course__stocks_in : PySem.W.codeIn K cd_Course__stocks_in "Course._stocks_in" = true)
    (k_Course__stocks_in : PySem.W.keepIn K (.ref f_Course__stocks_in) = true)
    (a_Course__misses_in : PySem.W.findIn K (.ref c_Course) "_misses_in" = some (some (.ref f_Course__misses_in)))
    (i_Course__misses_in : PySem.W.isFn K (.ref f_Course__misses_in) = true)
    (l_Course__misses_in : K.lookup f_Course__misses_in = some ⟨oc_Course__misses_in, od_Course__misses_in, .func (PySem.W.fnOf "_misses_in" "Course._misses_in" (defArgs s_Course__misses_in) (defBody s_Course__misses_in) (defScope s_Course__misses_in) .none kV_Course__misses_in dc_Course__misses_in pm_Course__misses_in an_Course__misses_in cd_Course__misses_in ct_Course__misses_in), sl_Course__misses_in⟩)
    (q_Course__misses_in : PySem.W.codeIn K cd_Course__misses_in "Course._misses_in" = true)
    (k_Course__misses_in : PySem.W.keepIn K (.ref f_Course__misses_in) = true)
    (a_Course__count_growing : PySem.W.findIn K (.ref c_Course) "_count_growing" = some (some (.ref f_Course__count_growing)))
    (i_Course__count_growing : PySem.W.isFn K (.ref f_Course__count_growing) = true)
    (l_Course__count_growing : K.lookup f_Course__count_growing = some ⟨oc_Course__count_growing, od_Course__count_growing, .func (PySem.W.fnOf "_count_growing" "Course._count_growing" (defArgs s_Course__count_growing) (defBody s_Course__count_growing) (defScope s_Course__count_growing) .none kV_Course__count_growing dc_Course__count_growing pm_Course__count_growing an_Course__count_growing cd_Course__count_growing ct_Course__count_growing), sl_Course__count_growing⟩)
    (q_Course__count_growing : PySem.W.codeIn K cd_Course__count_growing "Course._count_growing" = true)
    (k_Course__count_growing : PySem.W.keepIn K (.ref f_Course__count_growing) = true)
    (a_check_amounts : PySem.W.nsIn K mainGlobals "check_amounts" = some (some (.ref f_check_amounts)))
    (l_check_amounts : K.lookup f_check_amounts = some ⟨oc_check_amounts, od_check_amounts, .func (PySem.W.fnOf "check_amounts" "check_amounts" (defArgs s_check_amounts) (defBody s_check_amounts) (defScope s_check_amounts) .none kV_check_amounts dc_check_amounts pm_check_amounts an_check_amounts cd_check_amounts ct_check_amounts), sl_check_amounts⟩)
    (q_check_amounts : PySem.W.codeIn K cd_check_amounts "check_amounts" = true)
    (k_check_amounts : PySem.W.keepIn K (.ref f_check_amounts) = true)
    (a_check_life : PySem.W.nsIn K mainGlobals "check_life" = some (some (.ref f_check_life)))
    (l_check_life : K.lookup f_check_life = some ⟨oc_check_life, od_check_life, .func (PySem.W.fnOf "check_life" "check_life" (defArgs s_check_life) (defBody s_check_life) (defScope s_check_life) .none kV_check_life dc_check_life pm_check_life an_check_life cd_check_life ct_check_life), sl_check_life⟩)
    (q_check_life : PySem.W.codeIn K cd_check_life "check_life" = true)
    (k_check_life : PySem.W.keepIn K (.ref f_check_life) = true)
    (a_check_bakery : PySem.W.nsIn K mainGlobals "check_bakery" = some (some (.ref f_check_bakery)))
    (l_check_bakery : K.lookup f_check_bakery = some ⟨oc_check_bakery, od_check_bakery, .func (PySem.W.fnOf "check_bakery" "check_bakery" (defArgs s_check_bakery) (defBody s_check_bakery) (defScope s_check_bakery) .none kV_check_bakery dc_check_bakery pm_check_bakery an_check_bakery cd_check_bakery ct_check_bakery), sl_check_bakery⟩)
    (q_check_bakery : PySem.W.codeIn K cd_check_bakery "check_bakery" = true)
    (k_check_bakery : PySem.W.keepIn K (.ref f_check_bakery) = true)
    (a_Bakery___init__ : PySem.W.findIn K (.ref c_Bakery) "__init__" = some (some (.ref f_Bakery___init__)))
    (i_Bakery___init__ : PySem.W.isFn K (.ref f_Bakery___init__) = true)
    (l_Bakery___init__ : K.lookup f_Bakery___init__ = some ⟨oc_Bakery___init__, od_Bakery___init__, .func (PySem.W.fnOf "__init__" "Bakery.__init__" (defArgs s_Bakery___init__) (defBody s_Bakery___init__) (defScope s_Bakery___init__) .none kV_Bakery___init__ dc_Bakery___init__ pm_Bakery___init__ an_Bakery___init__ cd_Bakery___init__ ct_Bakery___init__), sl_Bakery___init__⟩)
    (q_Bakery___init__ : PySem.W.codeIn K cd_Bakery___init__ "Bakery.__init__" = true)
    (k_Bakery___init__ : PySem.W.keepIn K (.ref f_Bakery___init__) = true)
    (a_Bakery_bakes : PySem.W.findIn K (.ref c_Bakery) "bakes" = some (some (.ref pr_Bakery_bakes)))
    (pg_Bakery_bakes : PySem.W.specialIn K (.ref pr_Bakery_bakes) "__get__" = some (some (.builtin "property.__get__")))
    (pt_Bakery_bakes : PySem.W.takesIn K (.ref pr_Bakery_bakes) = some true)
    (pr1_Bakery_bakes : PySem.W.recIn K pr_Bakery_bakes "property" = some (.ref f_Bakery_bakes :: rs_Bakery_bakes))
    (l_Bakery_bakes : K.lookup f_Bakery_bakes = some ⟨oc_Bakery_bakes, od_Bakery_bakes, .func (PySem.W.fnOf "bakes" "Bakery.bakes" (defArgs s_Bakery_bakes) (defBody s_Bakery_bakes) (defScope s_Bakery_bakes) .none kV_Bakery_bakes dc_Bakery_bakes pm_Bakery_bakes an_Bakery_bakes cd_Bakery_bakes ct_Bakery_bakes), sl_Bakery_bakes⟩)
    (q_Bakery_bakes : PySem.W.codeIn K cd_Bakery_bakes "Bakery.bakes" = true)
    (k_Bakery_bakes : PySem.W.keepIn K (.ref f_Bakery_bakes) = true)
    (a_Bakery_life : PySem.W.findIn K (.ref c_Bakery) "life" = some (some (.ref pr_Bakery_life)))
    (pg_Bakery_life : PySem.W.specialIn K (.ref pr_Bakery_life) "__get__" = some (some (.builtin "property.__get__")))
    (pt_Bakery_life : PySem.W.takesIn K (.ref pr_Bakery_life) = some true)
    (pr1_Bakery_life : PySem.W.recIn K pr_Bakery_life "property" = some (.ref f_Bakery_life :: rs_Bakery_life))
    (l_Bakery_life : K.lookup f_Bakery_life = some ⟨oc_Bakery_life, od_Bakery_life, .func (PySem.W.fnOf "life" "Bakery.life" (defArgs s_Bakery_life) (defBody s_Bakery_life) (defScope s_Bakery_life) .none kV_Bakery_life dc_Bakery_life pm_Bakery_life an_Bakery_life cd_Bakery_life ct_Bakery_life), sl_Bakery_life⟩)
    (q_Bakery_life : PySem.W.codeIn K cd_Bakery_life "Bakery.life" = true)
    (k_Bakery_life : PySem.W.keepIn K (.ref f_Bakery_life) = true)
    (a_Bakery_stock : PySem.W.findIn K (.ref c_Bakery) "stock" = some (some (.ref f_Bakery_stock)))
    (i_Bakery_stock : PySem.W.isFn K (.ref f_Bakery_stock) = true)
    (l_Bakery_stock : K.lookup f_Bakery_stock = some ⟨oc_Bakery_stock, od_Bakery_stock, .func (PySem.W.fnOf "stock" "Bakery.stock" (defArgs s_Bakery_stock) (defBody s_Bakery_stock) (defScope s_Bakery_stock) .none kV_Bakery_stock dc_Bakery_stock pm_Bakery_stock an_Bakery_stock cd_Bakery_stock ct_Bakery_stock), sl_Bakery_stock⟩)
    (q_Bakery_stock : PySem.W.codeIn K cd_Bakery_stock "Bakery.stock" = true)
    (k_Bakery_stock : PySem.W.keepIn K (.ref f_Bakery_stock) = true)
    (a_Bakery_sold : PySem.W.findIn K (.ref c_Bakery) "sold" = some (some (.ref f_Bakery_sold)))
    (i_Bakery_sold : PySem.W.isFn K (.ref f_Bakery_sold) = true)
    (l_Bakery_sold : K.lookup f_Bakery_sold = some ⟨oc_Bakery_sold, od_Bakery_sold, .func (PySem.W.fnOf "sold" "Bakery.sold" (defArgs s_Bakery_sold) (defBody s_Bakery_sold) (defScope s_Bakery_sold) .none kV_Bakery_sold dc_Bakery_sold pm_Bakery_sold an_Bakery_sold cd_Bakery_sold ct_Bakery_sold), sl_Bakery_sold⟩)
    (q_Bakery_sold : PySem.W.codeIn K cd_Bakery_sold "Bakery.sold" = true)
    (k_Bakery_sold : PySem.W.keepIn K (.ref f_Bakery_sold) = true)
    (a_Bakery_thrown : PySem.W.findIn K (.ref c_Bakery) "thrown" = some (some (.ref f_Bakery_thrown)))
    (i_Bakery_thrown : PySem.W.isFn K (.ref f_Bakery_thrown) = true)
    (l_Bakery_thrown : K.lookup f_Bakery_thrown = some ⟨oc_Bakery_thrown, od_Bakery_thrown, .func (PySem.W.fnOf "thrown" "Bakery.thrown" (defArgs s_Bakery_thrown) (defBody s_Bakery_thrown) (defScope s_Bakery_thrown) .none kV_Bakery_thrown dc_Bakery_thrown pm_Bakery_thrown an_Bakery_thrown cd_Bakery_thrown ct_Bakery_thrown), sl_Bakery_thrown⟩)
    (q_Bakery_thrown : PySem.W.codeIn K cd_Bakery_thrown "Bakery.thrown" = true)
    (k_Bakery_thrown : PySem.W.keepIn K (.ref f_Bakery_thrown) = true)
    (a_LifeObserver___init__ : PySem.W.findIn K (.ref c_LifeObserver) "__init__" = some (some (.ref f_LifeObserver___init__)))
    (i_LifeObserver___init__ : PySem.W.isFn K (.ref f_LifeObserver___init__) = true)
    (l_LifeObserver___init__ : K.lookup f_LifeObserver___init__ = some ⟨oc_LifeObserver___init__, od_LifeObserver___init__, .func (PySem.W.fnOf "__init__" "LifeObserver.__init__" (defArgs s_LifeObserver___init__) (defBody s_LifeObserver___init__) (defScope s_LifeObserver___init__) .none kV_LifeObserver___init__ dc_LifeObserver___init__ pm_LifeObserver___init__ an_LifeObserver___init__ cd_LifeObserver___init__ ct_LifeObserver___init__), sl_LifeObserver___init__⟩)
    (q_LifeObserver___init__ : PySem.W.codeIn K cd_LifeObserver___init__ "LifeObserver.__init__" = true)
    (k_LifeObserver___init__ : PySem.W.keepIn K (.ref f_LifeObserver___init__) = true)
    (a_LifeObserver_possible_lives : PySem.W.findIn K (.ref c_LifeObserver) "possible_lives" = some (some (.ref pr_LifeObserver_possible_lives)))
    (pg_LifeObserver_possible_lives : PySem.W.specialIn K (.ref pr_LifeObserver_possible_lives) "__get__" = some (some (.builtin "property.__get__")))
    (pt_LifeObserver_possible_lives : PySem.W.takesIn K (.ref pr_LifeObserver_possible_lives) = some true)
    (pr1_LifeObserver_possible_lives : PySem.W.recIn K pr_LifeObserver_possible_lives "property" = some (.ref f_LifeObserver_possible_lives :: rs_LifeObserver_possible_lives))
    (l_LifeObserver_possible_lives : K.lookup f_LifeObserver_possible_lives = some ⟨oc_LifeObserver_possible_lives, od_LifeObserver_possible_lives, .func (PySem.W.fnOf "possible_lives" "LifeObserver.possible_lives" (defArgs s_LifeObserver_possible_lives) (defBody s_LifeObserver_possible_lives) (defScope s_LifeObserver_possible_lives) .none kV_LifeObserver_possible_lives dc_LifeObserver_possible_lives pm_LifeObserver_possible_lives an_LifeObserver_possible_lives cd_LifeObserver_possible_lives ct_LifeObserver_possible_lives), sl_LifeObserver_possible_lives⟩)
    (q_LifeObserver_possible_lives : PySem.W.codeIn K cd_LifeObserver_possible_lives "LifeObserver.possible_lives" = true)
    (k_LifeObserver_possible_lives : PySem.W.keepIn K (.ref f_LifeObserver_possible_lives) = true)
    (a_LifeObserver_records : PySem.W.findIn K (.ref c_LifeObserver) "records" = some (some (.ref pr_LifeObserver_records)))
    (pg_LifeObserver_records : PySem.W.specialIn K (.ref pr_LifeObserver_records) "__get__" = some (some (.builtin "property.__get__")))
    (pt_LifeObserver_records : PySem.W.takesIn K (.ref pr_LifeObserver_records) = some true)
    (pr1_LifeObserver_records : PySem.W.recIn K pr_LifeObserver_records "property" = some (.ref f_LifeObserver_records :: rs_LifeObserver_records))
    (l_LifeObserver_records : K.lookup f_LifeObserver_records = some ⟨oc_LifeObserver_records, od_LifeObserver_records, .func (PySem.W.fnOf "records" "LifeObserver.records" (defArgs s_LifeObserver_records) (defBody s_LifeObserver_records) (defScope s_LifeObserver_records) .none kV_LifeObserver_records dc_LifeObserver_records pm_LifeObserver_records an_LifeObserver_records cd_LifeObserver_records ct_LifeObserver_records), sl_LifeObserver_records⟩)
    (q_LifeObserver_records : PySem.W.codeIn K cd_LifeObserver_records "LifeObserver.records" = true)
    (k_LifeObserver_records : PySem.W.keepIn K (.ref f_LifeObserver_records) = true)
    (a_LifeObserver_see_sold : PySem.W.findIn K (.ref c_LifeObserver) "see_sold" = some (some (.ref f_LifeObserver_see_sold)))
    (i_LifeObserver_see_sold : PySem.W.isFn K (.ref f_LifeObserver_see_sold) = true)
    (l_LifeObserver_see_sold : K.lookup f_LifeObserver_see_sold = some ⟨oc_LifeObserver_see_sold, od_LifeObserver_see_sold, .func (PySem.W.fnOf "see_sold" "LifeObserver.see_sold" (defArgs s_LifeObserver_see_sold) (defBody s_LifeObserver_see_sold) (defScope s_LifeObserver_see_sold) .none kV_LifeObserver_see_sold dc_LifeObserver_see_sold pm_LifeObserver_see_sold an_LifeObserver_see_sold cd_LifeObserver_see_sold ct_LifeObserver_see_sold), sl_LifeObserver_see_sold⟩)
    (q_LifeObserver_see_sold : PySem.W.codeIn K cd_LifeObserver_see_sold "LifeObserver.see_sold" = true)
    (k_LifeObserver_see_sold : PySem.W.keepIn K (.ref f_LifeObserver_see_sold) = true)
    (a_LifeObserver_see_thrown : PySem.W.findIn K (.ref c_LifeObserver) "see_thrown" = some (some (.ref f_LifeObserver_see_thrown)))
    (i_LifeObserver_see_thrown : PySem.W.isFn K (.ref f_LifeObserver_see_thrown) = true)
    (l_LifeObserver_see_thrown : K.lookup f_LifeObserver_see_thrown = some ⟨oc_LifeObserver_see_thrown, od_LifeObserver_see_thrown, .func (PySem.W.fnOf "see_thrown" "LifeObserver.see_thrown" (defArgs s_LifeObserver_see_thrown) (defBody s_LifeObserver_see_thrown) (defScope s_LifeObserver_see_thrown) .none kV_LifeObserver_see_thrown dc_LifeObserver_see_thrown pm_LifeObserver_see_thrown an_LifeObserver_see_thrown cd_LifeObserver_see_thrown ct_LifeObserver_see_thrown), sl_LifeObserver_see_thrown⟩)
    (q_LifeObserver_see_thrown : PySem.W.codeIn K cd_LifeObserver_see_thrown "LifeObserver.see_thrown" = true)
    (k_LifeObserver_see_thrown : PySem.W.keepIn K (.ref f_LifeObserver_see_thrown) = true)
    (a_LifeObserver_see_stock : PySem.W.findIn K (.ref c_LifeObserver) "see_stock" = some (some (.ref f_LifeObserver_see_stock)))
    (i_LifeObserver_see_stock : PySem.W.isFn K (.ref f_LifeObserver_see_stock) = true)
    (l_LifeObserver_see_stock : K.lookup f_LifeObserver_see_stock = some ⟨oc_LifeObserver_see_stock, od_LifeObserver_see_stock, .func (PySem.W.fnOf "see_stock" "LifeObserver.see_stock" (defArgs s_LifeObserver_see_stock) (defBody s_LifeObserver_see_stock) (defScope s_LifeObserver_see_stock) .none kV_LifeObserver_see_stock dc_LifeObserver_see_stock pm_LifeObserver_see_stock an_LifeObserver_see_stock cd_LifeObserver_see_stock ct_LifeObserver_see_stock), sl_LifeObserver_see_stock⟩)
    (q_LifeObserver_see_stock : PySem.W.codeIn K cd_LifeObserver_see_stock "LifeObserver.see_stock" = true)
    (k_LifeObserver_see_stock : PySem.W.keepIn K (.ref f_LifeObserver_see_stock) = true)
    (a_LifeObserver_telling_day : PySem.W.findIn K (.ref c_LifeObserver) "telling_day" = some (some (.ref f_LifeObserver_telling_day)))
    (i_LifeObserver_telling_day : PySem.W.isFn K (.ref f_LifeObserver_telling_day) = true)
    (l_LifeObserver_telling_day : K.lookup f_LifeObserver_telling_day = some ⟨oc_LifeObserver_telling_day, od_LifeObserver_telling_day, .func (PySem.W.fnOf "telling_day" "LifeObserver.telling_day" (defArgs s_LifeObserver_telling_day) (defBody s_LifeObserver_telling_day) (defScope s_LifeObserver_telling_day) .none kV_LifeObserver_telling_day dc_LifeObserver_telling_day pm_LifeObserver_telling_day an_LifeObserver_telling_day cd_LifeObserver_telling_day ct_LifeObserver_telling_day), sl_LifeObserver_telling_day⟩)
    (q_LifeObserver_telling_day : PySem.W.codeIn K cd_LifeObserver_telling_day "LifeObserver.telling_day" = true)
    (k_LifeObserver_telling_day : PySem.W.keepIn K (.ref f_LifeObserver_telling_day) = true)
    (a_LifeObserver__accept : PySem.W.findIn K (.ref c_LifeObserver) "_accept" = some (some (.ref f_LifeObserver__accept)))
    (i_LifeObserver__accept : PySem.W.isFn K (.ref f_LifeObserver__accept) = true)
    (l_LifeObserver__accept : K.lookup f_LifeObserver__accept = some ⟨oc_LifeObserver__accept, od_LifeObserver__accept, .func (PySem.W.fnOf "_accept" "LifeObserver._accept" (defArgs s_LifeObserver__accept) (defBody s_LifeObserver__accept) (defScope s_LifeObserver__accept) .none kV_LifeObserver__accept dc_LifeObserver__accept pm_LifeObserver__accept an_LifeObserver__accept cd_LifeObserver__accept ct_LifeObserver__accept), sl_LifeObserver__accept⟩)
    (q_LifeObserver__accept : PySem.W.codeIn K cd_LifeObserver__accept "LifeObserver._accept" = true)
    (k_LifeObserver__accept : PySem.W.keepIn K (.ref f_LifeObserver__accept) = true)
    (a__law_mix : PySem.W.nsIn K mainGlobals "_law_mix" = some (some (.ref f__law_mix)))
    (l__law_mix : K.lookup f__law_mix = some ⟨oc__law_mix, od__law_mix, .func (PySem.W.fnOf "_law_mix" "_law_mix" (defArgs s__law_mix) (defBody s__law_mix) (defScope s__law_mix) .none kV__law_mix dc__law_mix pm__law_mix an__law_mix cd__law_mix ct__law_mix), sl__law_mix⟩)
    (q__law_mix : PySem.W.codeIn K cd__law_mix "_law_mix" = true)
    (k__law_mix : PySem.W.keepIn K (.ref f__law_mix) = true)
    (a__law_next : PySem.W.nsIn K mainGlobals "_law_next" = some (some (.ref f__law_next)))
    (l__law_next : K.lookup f__law_next = some ⟨oc__law_next, od__law_next, .func (PySem.W.fnOf "_law_next" "_law_next" (defArgs s__law_next) (defBody s__law_next) (defScope s__law_next) .none kV__law_next dc__law_next pm__law_next an__law_next cd__law_next ct__law_next), sl__law_next⟩)
    (q__law_next : PySem.W.codeIn K cd__law_next "_law_next" = true)
    (k__law_next : PySem.W.keepIn K (.ref f__law_next) = true)
    (a__law_alike : PySem.W.nsIn K mainGlobals "_law_alike" = some (some (.ref f__law_alike)))
    (l__law_alike : K.lookup f__law_alike = some ⟨oc__law_alike, od__law_alike, .func (PySem.W.fnOf "_law_alike" "_law_alike" (defArgs s__law_alike) (defBody s__law_alike) (defScope s__law_alike) .none kV__law_alike dc__law_alike pm__law_alike an__law_alike cd__law_alike ct__law_alike), sl__law_alike⟩)
    (q__law_alike : PySem.W.codeIn K cd__law_alike "_law_alike" = true)
    (k__law_alike : PySem.W.keepIn K (.ref f__law_alike) = true)
    (a__law_error : PySem.W.nsIn K mainGlobals "_law_error" = some (some (.ref f__law_error)))
    (l__law_error : K.lookup f__law_error = some ⟨oc__law_error, od__law_error, .func (PySem.W.fnOf "_law_error" "_law_error" (defArgs s__law_error) (defBody s__law_error) (defScope s__law_error) .none kV__law_error dc__law_error pm__law_error an__law_error cd__law_error ct__law_error), sl__law_error⟩)
    (q__law_error : PySem.W.codeIn K cd__law_error "_law_error" = true)
    (k__law_error : PySem.W.keepIn K (.ref f__law_error) = true)
    (a__law_amounts : PySem.W.nsIn K mainGlobals "_law_amounts" = some (some (.ref f__law_amounts)))
    (l__law_amounts : K.lookup f__law_amounts = some ⟨oc__law_amounts, od__law_amounts, .func (PySem.W.fnOf "_law_amounts" "_law_amounts" (defArgs s__law_amounts) (defBody s__law_amounts) (defScope s__law_amounts) .none kV__law_amounts dc__law_amounts pm__law_amounts an__law_amounts cd__law_amounts ct__law_amounts), sl__law_amounts⟩)
    (q__law_amounts : PySem.W.codeIn K cd__law_amounts "_law_amounts" = true)
    (k__law_amounts : PySem.W.keepIn K (.ref f__law_amounts) = true)
    (a__law_parts : PySem.W.nsIn K mainGlobals "_law_parts" = some (some (.ref f__law_parts)))
    (l__law_parts : K.lookup f__law_parts = some ⟨oc__law_parts, od__law_parts, .func (PySem.W.fnOf "_law_parts" "_law_parts" (defArgs s__law_parts) (defBody s__law_parts) (defScope s__law_parts) .none kV__law_parts dc__law_parts pm__law_parts an__law_parts cd__law_parts ct__law_parts), sl__law_parts⟩)
    (q__law_parts : PySem.W.codeIn K cd__law_parts "_law_parts" = true)
    (k__law_parts : PySem.W.keepIn K (.ref f__law_parts) = true)
    (a__law_number : PySem.W.nsIn K mainGlobals "_law_number" = some (some (.ref f__law_number)))
    (l__law_number : K.lookup f__law_number = some ⟨oc__law_number, od__law_number, .func (PySem.W.fnOf "_law_number" "_law_number" (defArgs s__law_number) (defBody s__law_number) (defScope s__law_number) .none kV__law_number dc__law_number pm__law_number an__law_number cd__law_number ct__law_number), sl__law_number⟩)
    (q__law_number : PySem.W.codeIn K cd__law_number "_law_number" = true)
    (k__law_number : PySem.W.keepIn K (.ref f__law_number) = true)
    (a__law_seen : PySem.W.nsIn K mainGlobals "_law_seen" = some (some (.ref f__law_seen)))
    (l__law_seen : K.lookup f__law_seen = some ⟨oc__law_seen, od__law_seen, .func (PySem.W.fnOf "_law_seen" "_law_seen" (defArgs s__law_seen) (defBody s__law_seen) (defScope s__law_seen) .none kV__law_seen dc__law_seen pm__law_seen an__law_seen cd__law_seen ct__law_seen), sl__law_seen⟩)
    (q__law_seen : PySem.W.codeIn K cd__law_seen "_law_seen" = true)
    (k__law_seen : PySem.W.keepIn K (.ref f__law_seen) = true)
    (a__law_telling_right : PySem.W.nsIn K mainGlobals "_law_telling_right" = some (some (.ref f__law_telling_right)))
    (l__law_telling_right : K.lookup f__law_telling_right = some ⟨oc__law_telling_right, od__law_telling_right, .func (PySem.W.fnOf "_law_telling_right" "_law_telling_right" (defArgs s__law_telling_right) (defBody s__law_telling_right) (defScope s__law_telling_right) .none kV__law_telling_right dc__law_telling_right pm__law_telling_right an__law_telling_right cd__law_telling_right ct__law_telling_right), sl__law_telling_right⟩)
    (q__law_telling_right : PySem.W.codeIn K cd__law_telling_right "_law_telling_right" = true)
    (k__law_telling_right : PySem.W.keepIn K (.ref f__law_telling_right) = true)
    (a_law : PySem.W.nsIn K mainGlobals "law" = some (some (.ref f_law)))
    (l_law : K.lookup f_law = some ⟨oc_law, od_law, .func (PySem.W.fnOf "law" "law" (defArgs s_law) (defBody s_law) (defScope s_law) .none kV_law dc_law pm_law an_law (.ref ka_law) ct_law), sl_law⟩)
    (q_law : PySem.W.codeIn K (.ref ka_law) "law" = true)
    (lc_law : K.lookup ka_law = some ⟨oe_law, oo_law, .fields vc_law, os_law⟩)
    (he_law : vc_law[11]? = some (.ref tb_law))
    (ch_law : PySem.W.codeHdIn K ka_law tb_law = true)
    (nt_law : K.lookup tb_law = none)
    (ht_law : h.get? tb_law = some { cls := .none, data := .fields #[] })
    (k_law : PySem.W.keepIn K (.ref f_law) = true) :
    LamX.LawAtS l w K L2.CX0 13 63 "_law_script" mg fa h := by
  have e := hfa.symm.trans (PySem.W.mg_of X G a_law)
  cases e
  have B_InvalidBakery___init__ : Binds K (PySem.W.ksFn "__init__" "InvalidBakery.__init__" (defArgs s_InvalidBakery___init__) (defBody s_InvalidBakery___init__) (defScope s_InvalidBakery___init__) .none kV_InvalidBakery___init__ dc_InvalidBakery___init__ pm_InvalidBakery___init__ an_InvalidBakery___init__ (.ref ka_InvalidBakery___init__) ct_InvalidBakery___init__ cc_InvalidBakery___init__) p_InvalidBakery___init__ [] := Binds.all fun us hl => match us, hl with | [_, _, _], _ => rfl
  have B_InvalidDays___init__ : Binds K (PySem.W.ksFn "__init__" "InvalidDays.__init__" (defArgs s_InvalidDays___init__) (defBody s_InvalidDays___init__) (defScope s_InvalidDays___init__) .none kV_InvalidDays___init__ dc_InvalidDays___init__ pm_InvalidDays___init__ an_InvalidDays___init__ (.ref ka_InvalidDays___init__) ct_InvalidDays___init__ cc_InvalidDays___init__) p_InvalidDays___init__ [] := Binds.all fun us hl => match us, hl with | [_, _], _ => rfl
  have F_check_number := fun_mk (st := s_check_number) l_check_number q_check_number k_check_number
  have B_check_number := F_check_number.binds (ps := p_check_number) fun _ _ _ _ _ _ us hl => match us, hl with | [_, _, _], _ => rfl
  have F_count_keepable := fun_mk (st := s_count_keepable) l_count_keepable q_count_keepable k_count_keepable
  have B_count_keepable := F_count_keepable.binds (ps := p_count_keepable) fun _ _ _ _ _ _ us hl => match us, hl with | [_, _], _ => rfl
  have F_Course___init__ := fun_mk (st := s_Course___init__) l_Course___init__ q_Course___init__ k_Course___init__
  have B_Course___init__ := F_Course___init__.binds (ps := p_Course___init__) fun _ _ _ _ _ _ us hl => match us, hl with | [_, _, _, _], _ => rfl
  have F_Course_stock_at := fun_mk (st := s_Course_stock_at) l_Course_stock_at q_Course_stock_at k_Course_stock_at
  have B_Course_stock_at := F_Course_stock_at.binds (ps := p_Course_stock_at) fun _ _ _ _ _ _ us hl => match us, hl with | [_, _], _ => rfl
  have F_Course_sales_on := fun_mk (st := s_Course_sales_on) l_Course_sales_on q_Course_sales_on k_Course_sales_on
  have B_Course_sales_on := F_Course_sales_on.binds (ps := p_Course_sales_on) fun _ _ _ _ _ _ us hl => match us, hl with | [_, _], _ => rfl
  have F_Course_find_settled := fun_mk (st := s_Course_find_settled) l_Course_find_settled q_Course_find_settled k_Course_find_settled
  have B_Course_find_settled := F_Course_find_settled.binds (ps := p_Course_find_settled) fun _ _ _ _ _ _ us hl => match us, hl with | [_], _ => rfl
  have F_Course_sum_settled_round := fun_mk (st := s_Course_sum_settled_round) l_Course_sum_settled_round q_Course_sum_settled_round k_Course_sum_settled_round
  have B_Course_sum_settled_round := F_Course_sum_settled_round.binds (ps := p_Course_sum_settled_round) fun _ _ _ _ _ _ us hl => match us, hl with | [_], _ => rfl
  have F_Course__play_round := fun_mk (st := s_Course__play_round) l_Course__play_round q_Course__play_round k_Course__play_round
  have B_Course__play_round := F_Course__play_round.binds (ps := p_Course__play_round) fun _ _ _ _ _ _ us hl => match us, hl with | [_, _], _ => rfl
  have F_Course__stocks_in := fun_mk (st := s_Course__stocks_in) l_Course__stocks_in q_Course__stocks_in k_Course__stocks_in
  have B_Course__stocks_in := F_Course__stocks_in.binds (ps := p_Course__stocks_in) fun _ _ _ _ _ _ us hl => match us, hl with | [_, _], _ => rfl
  have F_Course__misses_in := fun_mk (st := s_Course__misses_in) l_Course__misses_in q_Course__misses_in k_Course__misses_in
  have B_Course__misses_in := F_Course__misses_in.binds (ps := p_Course__misses_in) fun _ _ _ _ _ _ us hl => match us, hl with | [_, _], _ => rfl
  have F_Course__count_growing := fun_mk (st := s_Course__count_growing) l_Course__count_growing q_Course__count_growing k_Course__count_growing
  have B_Course__count_growing := F_Course__count_growing.binds (ps := p_Course__count_growing) fun _ _ _ _ _ _ us hl => match us, hl with | [_], _ => rfl
  have F_check_amounts := fun_mk (st := s_check_amounts) l_check_amounts q_check_amounts k_check_amounts
  have B_check_amounts := F_check_amounts.binds (ps := p_check_amounts) fun _ _ _ _ _ _ us hl => match us, hl with | [_, _], _ => rfl
  have F_check_life := fun_mk (st := s_check_life) l_check_life q_check_life k_check_life
  have B_check_life := F_check_life.binds (ps := p_check_life) fun _ _ _ _ _ _ us hl => match us, hl with | [_], _ => rfl
  have F_check_bakery := fun_mk (st := s_check_bakery) l_check_bakery q_check_bakery k_check_bakery
  have B_check_bakery := F_check_bakery.binds (ps := p_check_bakery) fun _ _ _ _ _ _ us hl => match us, hl with | [_, _, _], _ => rfl
  have F_Bakery___init__ := fun_mk (st := s_Bakery___init__) l_Bakery___init__ q_Bakery___init__ k_Bakery___init__
  have B_Bakery___init__ := F_Bakery___init__.binds (ps := p_Bakery___init__) fun _ _ _ _ _ _ us hl => match us, hl with | [_, _, _, _], _ => rfl
  have F_Bakery_bakes := fun_mk (st := s_Bakery_bakes) l_Bakery_bakes q_Bakery_bakes k_Bakery_bakes
  have B_Bakery_bakes := F_Bakery_bakes.binds (ps := p_Bakery_bakes) fun _ _ _ _ _ _ us hl => match us, hl with | [_], _ => rfl
  have F_Bakery_life := fun_mk (st := s_Bakery_life) l_Bakery_life q_Bakery_life k_Bakery_life
  have B_Bakery_life := F_Bakery_life.binds (ps := p_Bakery_life) fun _ _ _ _ _ _ us hl => match us, hl with | [_], _ => rfl
  have F_Bakery_stock := fun_mk (st := s_Bakery_stock) l_Bakery_stock q_Bakery_stock k_Bakery_stock
  have B_Bakery_stock := F_Bakery_stock.binds (ps := p_Bakery_stock) fun _ _ _ _ _ _ us hl => match us, hl with | [_, _], _ => rfl
  have F_Bakery_sold := fun_mk (st := s_Bakery_sold) l_Bakery_sold q_Bakery_sold k_Bakery_sold
  have B_Bakery_sold := F_Bakery_sold.binds (ps := p_Bakery_sold) fun _ _ _ _ _ _ us hl => match us, hl with | [_, _], _ => rfl
  have F_Bakery_thrown := fun_mk (st := s_Bakery_thrown) l_Bakery_thrown q_Bakery_thrown k_Bakery_thrown
  have B_Bakery_thrown := F_Bakery_thrown.binds (ps := p_Bakery_thrown) fun _ _ _ _ _ _ us hl => match us, hl with | [_, _], _ => rfl
  have F_LifeObserver___init__ := fun_mk (st := s_LifeObserver___init__) l_LifeObserver___init__ q_LifeObserver___init__ k_LifeObserver___init__
  have B_LifeObserver___init__ := F_LifeObserver___init__.binds (ps := p_LifeObserver___init__) fun _ _ _ _ _ _ us hl => match us, hl with | [_, _, _], _ => rfl
  have F_LifeObserver_possible_lives := fun_mk (st := s_LifeObserver_possible_lives) l_LifeObserver_possible_lives q_LifeObserver_possible_lives k_LifeObserver_possible_lives
  have B_LifeObserver_possible_lives := F_LifeObserver_possible_lives.binds (ps := p_LifeObserver_possible_lives) fun _ _ _ _ _ _ us hl => match us, hl with | [_], _ => rfl
  have F_LifeObserver_records := fun_mk (st := s_LifeObserver_records) l_LifeObserver_records q_LifeObserver_records k_LifeObserver_records
  have B_LifeObserver_records := F_LifeObserver_records.binds (ps := p_LifeObserver_records) fun _ _ _ _ _ _ us hl => match us, hl with | [_], _ => rfl
  have F_LifeObserver_see_sold := fun_mk (st := s_LifeObserver_see_sold) l_LifeObserver_see_sold q_LifeObserver_see_sold k_LifeObserver_see_sold
  have B_LifeObserver_see_sold := F_LifeObserver_see_sold.binds (ps := p_LifeObserver_see_sold) fun _ _ _ _ _ _ us hl => match us, hl with | [_, _, _], _ => rfl
  have F_LifeObserver_see_thrown := fun_mk (st := s_LifeObserver_see_thrown) l_LifeObserver_see_thrown q_LifeObserver_see_thrown k_LifeObserver_see_thrown
  have B_LifeObserver_see_thrown := F_LifeObserver_see_thrown.binds (ps := p_LifeObserver_see_thrown) fun _ _ _ _ _ _ us hl => match us, hl with | [_, _, _], _ => rfl
  have F_LifeObserver_see_stock := fun_mk (st := s_LifeObserver_see_stock) l_LifeObserver_see_stock q_LifeObserver_see_stock k_LifeObserver_see_stock
  have B_LifeObserver_see_stock := F_LifeObserver_see_stock.binds (ps := p_LifeObserver_see_stock) fun _ _ _ _ _ _ us hl => match us, hl with | [_, _, _], _ => rfl
  have F_LifeObserver_telling_day := fun_mk (st := s_LifeObserver_telling_day) l_LifeObserver_telling_day q_LifeObserver_telling_day k_LifeObserver_telling_day
  have B_LifeObserver_telling_day := F_LifeObserver_telling_day.binds (ps := p_LifeObserver_telling_day) fun _ _ _ _ _ _ us hl => match us, hl with | [_], _ => rfl
  have F_LifeObserver__accept := fun_mk (st := s_LifeObserver__accept) l_LifeObserver__accept q_LifeObserver__accept k_LifeObserver__accept
  have B_LifeObserver__accept := F_LifeObserver__accept.binds (ps := p_LifeObserver__accept) fun _ _ _ _ _ _ us hl => match us, hl with | [_, _, _, _, _], _ => rfl
  have F__law_mix := fun_mk (st := s__law_mix) l__law_mix q__law_mix k__law_mix
  have B__law_mix := F__law_mix.binds (ps := p__law_mix) fun _ _ _ _ _ _ us hl => match us, hl with | [_, _], _ => rfl
  have F__law_next := fun_mk (st := s__law_next) l__law_next q__law_next k__law_next
  have B__law_next := F__law_next.binds (ps := p__law_next) fun _ _ _ _ _ _ us hl => match us, hl with | [_, _], _ => rfl
  have F__law_alike := fun_mk (st := s__law_alike) l__law_alike q__law_alike k__law_alike
  have B__law_alike := F__law_alike.binds (ps := p__law_alike) fun _ _ _ _ _ _ us hl => match us, hl with | [_, _], _ => rfl
  have F__law_error := fun_mk (st := s__law_error) l__law_error q__law_error k__law_error
  have B__law_error := F__law_error.binds (ps := p__law_error) fun _ _ _ _ _ _ us hl => match us, hl with | [_], _ => rfl
  have F__law_amounts := fun_mk (st := s__law_amounts) l__law_amounts q__law_amounts k__law_amounts
  have B__law_amounts := F__law_amounts.binds (ps := p__law_amounts) fun _ _ _ _ _ _ us hl => match us, hl with | [_, _, _], _ => rfl
  have F__law_parts := fun_mk (st := s__law_parts) l__law_parts q__law_parts k__law_parts
  have B__law_parts := F__law_parts.binds (ps := p__law_parts) fun _ _ _ _ _ _ us hl => match us, hl with | [_, _, _], _ => rfl
  have F__law_number := fun_mk (st := s__law_number) l__law_number q__law_number k__law_number
  have B__law_number := F__law_number.binds (ps := p__law_number) fun _ _ _ _ _ _ us hl => match us, hl with | [_, _, _], _ => rfl
  have F__law_seen := fun_mk (st := s__law_seen) l__law_seen q__law_seen k__law_seen
  have B__law_seen := F__law_seen.binds (ps := p__law_seen) fun _ _ _ _ _ _ us hl => match us, hl with | [_, _, _, _], _ => rfl
  have F__law_telling_right := fun_mk (st := s__law_telling_right) l__law_telling_right q__law_telling_right k__law_telling_right
  have B__law_telling_right := F__law_telling_right.binds (ps := p__law_telling_right) fun _ _ _ _ _ _ us hl => match us, hl with | [_, _], _ => rfl
  have F_law := fun_mk (st := s_law) l_law q_law k_law
  have B_law := F_law.binds (ps := p_law) fun _ _ _ _ _ _ us hl => match us, hl with | [_], _ => rfl
  have T : Txt K mg { c_Course := c_Course, mc_Course := .none, c_Bakery := c_Bakery, mc_Bakery := .type "type", c_LifeObserver := c_LifeObserver, mc_LifeObserver := .none, t_MOST_LOAVES := t_MOST_LOAVES, t_LAST_DAY := t_LAST_DAY, c_LoafError := c_LoafError, c_InvalidBakery := c_InvalidBakery, c_InvalidNumber := c_InvalidNumber, c_InvalidDays := c_InvalidDays, c_Contradiction := c_Contradiction, P := l.prog, f_InvalidBakery___init__ := f_InvalidBakery___init__, k_InvalidBakery___init__ := ka_InvalidBakery___init__, cc_InvalidBakery___init__ := cc_InvalidBakery___init__, d_InvalidBakery___init__ := PySem.W.ksFn "__init__" "InvalidBakery.__init__" (defArgs s_InvalidBakery___init__) (defBody s_InvalidBakery___init__) (defScope s_InvalidBakery___init__) .none kV_InvalidBakery___init__ dc_InvalidBakery___init__ pm_InvalidBakery___init__ an_InvalidBakery___init__ (.ref ka_InvalidBakery___init__) ct_InvalidBakery___init__ cc_InvalidBakery___init__, f_InvalidDays___init__ := f_InvalidDays___init__, k_InvalidDays___init__ := ka_InvalidDays___init__, cc_InvalidDays___init__ := cc_InvalidDays___init__, d_InvalidDays___init__ := PySem.W.ksFn "__init__" "InvalidDays.__init__" (defArgs s_InvalidDays___init__) (defBody s_InvalidDays___init__) (defScope s_InvalidDays___init__) .none kV_InvalidDays___init__ dc_InvalidDays___init__ pm_InvalidDays___init__ an_InvalidDays___init__ (.ref ka_InvalidDays___init__) ct_InvalidDays___init__ cc_InvalidDays___init__, f_check_number := f_check_number, d_check_number := PySem.W.fnOf "check_number" "check_number" (defArgs s_check_number) (defBody s_check_number) (defScope s_check_number) .none kV_check_number dc_check_number pm_check_number an_check_number cd_check_number ct_check_number, f_count_keepable := f_count_keepable, d_count_keepable := PySem.W.fnOf "count_keepable" "count_keepable" (defArgs s_count_keepable) (defBody s_count_keepable) (defScope s_count_keepable) .none kV_count_keepable dc_count_keepable pm_count_keepable an_count_keepable cd_count_keepable ct_count_keepable, f_Course___init__ := f_Course___init__, d_Course___init__ := PySem.W.fnOf "__init__" "Course.__init__" (defArgs s_Course___init__) (defBody s_Course___init__) (defScope s_Course___init__) .none kV_Course___init__ dc_Course___init__ pm_Course___init__ an_Course___init__ cd_Course___init__ ct_Course___init__, f_Course_stock_at := f_Course_stock_at, d_Course_stock_at := PySem.W.fnOf "stock_at" "Course.stock_at" (defArgs s_Course_stock_at) (defBody s_Course_stock_at) (defScope s_Course_stock_at) .none kV_Course_stock_at dc_Course_stock_at pm_Course_stock_at an_Course_stock_at cd_Course_stock_at ct_Course_stock_at, f_Course_sales_on := f_Course_sales_on, d_Course_sales_on := PySem.W.fnOf "sales_on" "Course.sales_on" (defArgs s_Course_sales_on) (defBody s_Course_sales_on) (defScope s_Course_sales_on) .none kV_Course_sales_on dc_Course_sales_on pm_Course_sales_on an_Course_sales_on cd_Course_sales_on ct_Course_sales_on, f_Course_find_settled := f_Course_find_settled, d_Course_find_settled := PySem.W.fnOf "find_settled" "Course.find_settled" (defArgs s_Course_find_settled) (defBody s_Course_find_settled) (defScope s_Course_find_settled) .none kV_Course_find_settled dc_Course_find_settled pm_Course_find_settled an_Course_find_settled cd_Course_find_settled ct_Course_find_settled, f_Course_sum_settled_round := f_Course_sum_settled_round, d_Course_sum_settled_round := PySem.W.fnOf "sum_settled_round" "Course.sum_settled_round" (defArgs s_Course_sum_settled_round) (defBody s_Course_sum_settled_round) (defScope s_Course_sum_settled_round) .none kV_Course_sum_settled_round dc_Course_sum_settled_round pm_Course_sum_settled_round an_Course_sum_settled_round cd_Course_sum_settled_round ct_Course_sum_settled_round, f_Course__play_round := f_Course__play_round, d_Course__play_round := PySem.W.fnOf "_play_round" "Course._play_round" (defArgs s_Course__play_round) (defBody s_Course__play_round) (defScope s_Course__play_round) .none kV_Course__play_round dc_Course__play_round pm_Course__play_round an_Course__play_round cd_Course__play_round ct_Course__play_round, f_Course__stocks_in := f_Course__stocks_in, d_Course__stocks_in := PySem.W.fnOf "_stocks_in" "Course._stocks_in" (defArgs s_Course__stocks_in) (defBody s_Course__stocks_in) (defScope s_Course__stocks_in) .none kV_Course__stocks_in dc_Course__stocks_in pm_Course__stocks_in an_Course__stocks_in cd_Course__stocks_in ct_Course__stocks_in, f_Course__misses_in := f_Course__misses_in, d_Course__misses_in := PySem.W.fnOf "_misses_in" "Course._misses_in" (defArgs s_Course__misses_in) (defBody s_Course__misses_in) (defScope s_Course__misses_in) .none kV_Course__misses_in dc_Course__misses_in pm_Course__misses_in an_Course__misses_in cd_Course__misses_in ct_Course__misses_in, f_Course__count_growing := f_Course__count_growing, d_Course__count_growing := PySem.W.fnOf "_count_growing" "Course._count_growing" (defArgs s_Course__count_growing) (defBody s_Course__count_growing) (defScope s_Course__count_growing) .none kV_Course__count_growing dc_Course__count_growing pm_Course__count_growing an_Course__count_growing cd_Course__count_growing ct_Course__count_growing, f_check_amounts := f_check_amounts, d_check_amounts := PySem.W.fnOf "check_amounts" "check_amounts" (defArgs s_check_amounts) (defBody s_check_amounts) (defScope s_check_amounts) .none kV_check_amounts dc_check_amounts pm_check_amounts an_check_amounts cd_check_amounts ct_check_amounts, f_check_life := f_check_life, d_check_life := PySem.W.fnOf "check_life" "check_life" (defArgs s_check_life) (defBody s_check_life) (defScope s_check_life) .none kV_check_life dc_check_life pm_check_life an_check_life cd_check_life ct_check_life, f_check_bakery := f_check_bakery, d_check_bakery := PySem.W.fnOf "check_bakery" "check_bakery" (defArgs s_check_bakery) (defBody s_check_bakery) (defScope s_check_bakery) .none kV_check_bakery dc_check_bakery pm_check_bakery an_check_bakery cd_check_bakery ct_check_bakery, f_Bakery___init__ := f_Bakery___init__, d_Bakery___init__ := PySem.W.fnOf "__init__" "Bakery.__init__" (defArgs s_Bakery___init__) (defBody s_Bakery___init__) (defScope s_Bakery___init__) .none kV_Bakery___init__ dc_Bakery___init__ pm_Bakery___init__ an_Bakery___init__ cd_Bakery___init__ ct_Bakery___init__, f_Bakery_bakes := f_Bakery_bakes, d_Bakery_bakes := PySem.W.fnOf "bakes" "Bakery.bakes" (defArgs s_Bakery_bakes) (defBody s_Bakery_bakes) (defScope s_Bakery_bakes) .none kV_Bakery_bakes dc_Bakery_bakes pm_Bakery_bakes an_Bakery_bakes cd_Bakery_bakes ct_Bakery_bakes, pr_Bakery_bakes := pr_Bakery_bakes, f_Bakery_life := f_Bakery_life, d_Bakery_life := PySem.W.fnOf "life" "Bakery.life" (defArgs s_Bakery_life) (defBody s_Bakery_life) (defScope s_Bakery_life) .none kV_Bakery_life dc_Bakery_life pm_Bakery_life an_Bakery_life cd_Bakery_life ct_Bakery_life, pr_Bakery_life := pr_Bakery_life, f_Bakery_stock := f_Bakery_stock, d_Bakery_stock := PySem.W.fnOf "stock" "Bakery.stock" (defArgs s_Bakery_stock) (defBody s_Bakery_stock) (defScope s_Bakery_stock) .none kV_Bakery_stock dc_Bakery_stock pm_Bakery_stock an_Bakery_stock cd_Bakery_stock ct_Bakery_stock, f_Bakery_sold := f_Bakery_sold, d_Bakery_sold := PySem.W.fnOf "sold" "Bakery.sold" (defArgs s_Bakery_sold) (defBody s_Bakery_sold) (defScope s_Bakery_sold) .none kV_Bakery_sold dc_Bakery_sold pm_Bakery_sold an_Bakery_sold cd_Bakery_sold ct_Bakery_sold, f_Bakery_thrown := f_Bakery_thrown, d_Bakery_thrown := PySem.W.fnOf "thrown" "Bakery.thrown" (defArgs s_Bakery_thrown) (defBody s_Bakery_thrown) (defScope s_Bakery_thrown) .none kV_Bakery_thrown dc_Bakery_thrown pm_Bakery_thrown an_Bakery_thrown cd_Bakery_thrown ct_Bakery_thrown, f_LifeObserver___init__ := f_LifeObserver___init__, d_LifeObserver___init__ := PySem.W.fnOf "__init__" "LifeObserver.__init__" (defArgs s_LifeObserver___init__) (defBody s_LifeObserver___init__) (defScope s_LifeObserver___init__) .none kV_LifeObserver___init__ dc_LifeObserver___init__ pm_LifeObserver___init__ an_LifeObserver___init__ cd_LifeObserver___init__ ct_LifeObserver___init__, f_LifeObserver_possible_lives := f_LifeObserver_possible_lives, d_LifeObserver_possible_lives := PySem.W.fnOf "possible_lives" "LifeObserver.possible_lives" (defArgs s_LifeObserver_possible_lives) (defBody s_LifeObserver_possible_lives) (defScope s_LifeObserver_possible_lives) .none kV_LifeObserver_possible_lives dc_LifeObserver_possible_lives pm_LifeObserver_possible_lives an_LifeObserver_possible_lives cd_LifeObserver_possible_lives ct_LifeObserver_possible_lives, pr_LifeObserver_possible_lives := pr_LifeObserver_possible_lives, f_LifeObserver_records := f_LifeObserver_records, d_LifeObserver_records := PySem.W.fnOf "records" "LifeObserver.records" (defArgs s_LifeObserver_records) (defBody s_LifeObserver_records) (defScope s_LifeObserver_records) .none kV_LifeObserver_records dc_LifeObserver_records pm_LifeObserver_records an_LifeObserver_records cd_LifeObserver_records ct_LifeObserver_records, pr_LifeObserver_records := pr_LifeObserver_records, f_LifeObserver_see_sold := f_LifeObserver_see_sold, d_LifeObserver_see_sold := PySem.W.fnOf "see_sold" "LifeObserver.see_sold" (defArgs s_LifeObserver_see_sold) (defBody s_LifeObserver_see_sold) (defScope s_LifeObserver_see_sold) .none kV_LifeObserver_see_sold dc_LifeObserver_see_sold pm_LifeObserver_see_sold an_LifeObserver_see_sold cd_LifeObserver_see_sold ct_LifeObserver_see_sold, f_LifeObserver_see_thrown := f_LifeObserver_see_thrown, d_LifeObserver_see_thrown := PySem.W.fnOf "see_thrown" "LifeObserver.see_thrown" (defArgs s_LifeObserver_see_thrown) (defBody s_LifeObserver_see_thrown) (defScope s_LifeObserver_see_thrown) .none kV_LifeObserver_see_thrown dc_LifeObserver_see_thrown pm_LifeObserver_see_thrown an_LifeObserver_see_thrown cd_LifeObserver_see_thrown ct_LifeObserver_see_thrown, f_LifeObserver_see_stock := f_LifeObserver_see_stock, d_LifeObserver_see_stock := PySem.W.fnOf "see_stock" "LifeObserver.see_stock" (defArgs s_LifeObserver_see_stock) (defBody s_LifeObserver_see_stock) (defScope s_LifeObserver_see_stock) .none kV_LifeObserver_see_stock dc_LifeObserver_see_stock pm_LifeObserver_see_stock an_LifeObserver_see_stock cd_LifeObserver_see_stock ct_LifeObserver_see_stock, f_LifeObserver_telling_day := f_LifeObserver_telling_day, d_LifeObserver_telling_day := PySem.W.fnOf "telling_day" "LifeObserver.telling_day" (defArgs s_LifeObserver_telling_day) (defBody s_LifeObserver_telling_day) (defScope s_LifeObserver_telling_day) .none kV_LifeObserver_telling_day dc_LifeObserver_telling_day pm_LifeObserver_telling_day an_LifeObserver_telling_day cd_LifeObserver_telling_day ct_LifeObserver_telling_day, f_LifeObserver__accept := f_LifeObserver__accept, d_LifeObserver__accept := PySem.W.fnOf "_accept" "LifeObserver._accept" (defArgs s_LifeObserver__accept) (defBody s_LifeObserver__accept) (defScope s_LifeObserver__accept) .none kV_LifeObserver__accept dc_LifeObserver__accept pm_LifeObserver__accept an_LifeObserver__accept cd_LifeObserver__accept ct_LifeObserver__accept, f__law_mix := f__law_mix, d__law_mix := PySem.W.fnOf "_law_mix" "_law_mix" (defArgs s__law_mix) (defBody s__law_mix) (defScope s__law_mix) .none kV__law_mix dc__law_mix pm__law_mix an__law_mix cd__law_mix ct__law_mix, f__law_next := f__law_next, d__law_next := PySem.W.fnOf "_law_next" "_law_next" (defArgs s__law_next) (defBody s__law_next) (defScope s__law_next) .none kV__law_next dc__law_next pm__law_next an__law_next cd__law_next ct__law_next, f__law_alike := f__law_alike, d__law_alike := PySem.W.fnOf "_law_alike" "_law_alike" (defArgs s__law_alike) (defBody s__law_alike) (defScope s__law_alike) .none kV__law_alike dc__law_alike pm__law_alike an__law_alike cd__law_alike ct__law_alike, f__law_error := f__law_error, d__law_error := PySem.W.fnOf "_law_error" "_law_error" (defArgs s__law_error) (defBody s__law_error) (defScope s__law_error) .none kV__law_error dc__law_error pm__law_error an__law_error cd__law_error ct__law_error, f__law_amounts := f__law_amounts, d__law_amounts := PySem.W.fnOf "_law_amounts" "_law_amounts" (defArgs s__law_amounts) (defBody s__law_amounts) (defScope s__law_amounts) .none kV__law_amounts dc__law_amounts pm__law_amounts an__law_amounts cd__law_amounts ct__law_amounts, f__law_parts := f__law_parts, d__law_parts := PySem.W.fnOf "_law_parts" "_law_parts" (defArgs s__law_parts) (defBody s__law_parts) (defScope s__law_parts) .none kV__law_parts dc__law_parts pm__law_parts an__law_parts cd__law_parts ct__law_parts, f__law_number := f__law_number, d__law_number := PySem.W.fnOf "_law_number" "_law_number" (defArgs s__law_number) (defBody s__law_number) (defScope s__law_number) .none kV__law_number dc__law_number pm__law_number an__law_number cd__law_number ct__law_number, f__law_seen := f__law_seen, d__law_seen := PySem.W.fnOf "_law_seen" "_law_seen" (defArgs s__law_seen) (defBody s__law_seen) (defScope s__law_seen) .none kV__law_seen dc__law_seen pm__law_seen an__law_seen cd__law_seen ct__law_seen, f__law_telling_right := f__law_telling_right, d__law_telling_right := PySem.W.fnOf "_law_telling_right" "_law_telling_right" (defArgs s__law_telling_right) (defBody s__law_telling_right) (defScope s__law_telling_right) .none kV__law_telling_right dc__law_telling_right pm__law_telling_right an__law_telling_right cd__law_telling_right ct__law_telling_right, k_law := ka_law, tb_law := tb_law, f_law := fa, d_law := PySem.W.fnOf "law" "law" (defArgs s_law) (defBody s_law) (defScope s_law) .none kV_law dc_law pm_law an_law (.ref ka_law) ct_law } :=
    { g_Course := PySem.W.mg_of X G g_Course,
      cl_Course := ⟨pg_Course, hd_Course, po_Course, sa_Course⟩,
      g_Bakery := PySem.W.mg_of X G g_Bakery,
      cl_Bakery := ⟨pg_Bakery, hd_Bakery, po_Bakery, sa_Bakery⟩,
      g_LifeObserver := PySem.W.mg_of X G g_LifeObserver,
      cl_LifeObserver := ⟨pg_LifeObserver, hd_LifeObserver, po_LifeObserver, sa_LifeObserver⟩,
      na_Course__bakes := na_Course__bakes,
      na_Course__demands := na_Course__demands,
      na_Course__keepable := na_Course__keepable,
      na_Course__gain := na_Course__gain,
      na_Course__first_end := na_Course__first_end,
      na_Course__full_end := na_Course__full_end,
      na_Course__first_misses := na_Course__first_misses,
      na_Course__later_misses := na_Course__later_misses,
      na_Bakery__bakes := na_Bakery__bakes,
      na_Bakery__demands := na_Bakery__demands,
      na_Bakery__life := na_Bakery__life,
      na_Bakery_course := na_Bakery_course,
      na_Bakery__settled_day := na_Bakery__settled_day,
      na_Bakery__long_run := na_Bakery__long_run,
      cv_Bakery_MAX_DAYS := ⟨⟨rd_Bakery, gt_Bakery⟩, _, ⟨cv_Bakery_MAX_DAYS, ⟨_, rfl⟩⟩⟩,
      cv_Bakery_MAX_LIFE := ⟨⟨rd_Bakery, gt_Bakery⟩, _, ⟨cv_Bakery_MAX_LIFE, ⟨_, rfl⟩⟩⟩,
      na_LifeObserver__fitting := na_LifeObserver__fitting,
      na_LifeObserver__accepted := na_LifeObserver__accepted,
      g_MOST_LOAVES := PySem.W.mg_of X G g_MOST_LOAVES,
      g_LAST_DAY := PySem.W.mg_of X G g_LAST_DAY,
      b_ValueError := PySem.W.mg_none_of X G b_ValueError,
      b_bool := PySem.W.mg_none_of X G b_bool,
      b_dict := PySem.W.mg_none_of X G b_dict,
      b_divmod := PySem.W.mg_none_of X G b_divmod,
      b_enumerate := PySem.W.mg_none_of X G b_enumerate,
      b_int := PySem.W.mg_none_of X G b_int,
      b_isinstance := PySem.W.mg_none_of X G b_isinstance,
      b_len := PySem.W.mg_none_of X G b_len,
      b_list := PySem.W.mg_none_of X G b_list,
      b_max := PySem.W.mg_none_of X G b_max,
      b_min := PySem.W.mg_none_of X G b_min,
      b_range := PySem.W.mg_none_of X G b_range,
      b_str := PySem.W.mg_none_of X G b_str,
      b_sum := PySem.W.mg_none_of X G b_sum,
      b_super := PySem.W.mg_none_of X G b_super,
      b_tuple := PySem.W.mg_none_of X G b_tuple,
      b_zip := PySem.W.mg_none_of X G b_zip,
      g_LoafError := PySem.W.mg_of X G g_LoafError,
      g_InvalidBakery := PySem.W.mg_of X G g_InvalidBakery,
      g_InvalidNumber := PySem.W.mg_of X G g_InvalidNumber,
      g_InvalidDays := PySem.W.mg_of X G g_InvalidDays,
      g_Contradiction := PySem.W.mg_of X G g_Contradiction,
      xp_InvalidNumber := xp_InvalidNumber,
      xq_InvalidNumber := xq_InvalidNumber,
      xb_InvalidNumber := xb_InvalidNumber,
      xy_InvalidNumber := xy_InvalidNumber,
      xv_InvalidNumber := xv_InvalidNumber,
      xk_InvalidNumber_InvalidBakery := xk_InvalidNumber_InvalidBakery,
      xk_InvalidNumber_InvalidNumber := xk_InvalidNumber_InvalidNumber,
      xk_InvalidNumber_InvalidDays := xk_InvalidNumber_InvalidDays,
      xk_InvalidNumber_Contradiction := xk_InvalidNumber_Contradiction,
      xI_InvalidNumber := ⟨xic_InvalidNumber, xga_InvalidNumber, xgg_InvalidNumber, xb_InvalidNumber, xhd_InvalidNumber, xca_InvalidNumber, xe_cg, xe_ct, xmo_InvalidNumber⟩,
      xm_InvalidNumber := PySem.W.exm_ref xe_base xe_dict xe_type sL_InvalidNumber,
      xp_Contradiction := xp_Contradiction,
      xq_Contradiction := xq_Contradiction,
      xb_Contradiction := xb_Contradiction,
      xy_Contradiction := xy_Contradiction,
      xv_Contradiction := xv_Contradiction,
      xk_Contradiction_InvalidBakery := xk_Contradiction_InvalidBakery,
      xk_Contradiction_InvalidNumber := xk_Contradiction_InvalidNumber,
      xk_Contradiction_InvalidDays := xk_Contradiction_InvalidDays,
      xk_Contradiction_Contradiction := xk_Contradiction_Contradiction,
      xI_Contradiction := ⟨xic_Contradiction, xga_Contradiction, xgg_Contradiction, xb_Contradiction, xhd_Contradiction, xca_Contradiction, xe_cg, xe_ct, xmo_Contradiction⟩,
      xm_Contradiction := PySem.W.exm_ref xe_base xe_dict xe_type sL_Contradiction,
      xk_InvalidBakery_InvalidBakery := xk_InvalidBakery_InvalidBakery,
      xk_InvalidBakery_InvalidNumber := xk_InvalidBakery_InvalidNumber,
      xk_InvalidBakery_InvalidDays := xk_InvalidBakery_InvalidDays,
      xk_InvalidBakery_Contradiction := xk_InvalidBakery_Contradiction,
      na_InvalidBakery_part := na_InvalidBakery_part,
      na_InvalidBakery_index := na_InvalidBakery_index,
      xv_InvalidBakery := xv_InvalidBakery,
      ox_InvalidBakery := ⟨⟨_, _, _, _, _, _, _, _, _, _, _, _, _, _, _, xL_InvalidBakery, xr_InvalidBakery⟩, xsa_InvalidBakery, xeC_InvalidBakery, xtC_InvalidBakery, xkC_InvalidBakery⟩,
      xi_InvalidBakery := xi_InvalidBakery,
      xt_InvalidBakery := xt_InvalidBakery,
      xs_InvalidBakery := ⟨⟨_, _, _, _, _, _, _, _, rfl, l_InvalidBakery___init__, q_InvalidBakery___init__⟩, ⟨_, _, _, _, _, _, lk_InvalidBakery___init__, vf_InvalidBakery___init__, fi_InvalidBakery___init__⟩, ⟨_, _, _, ce_InvalidBakery___init__⟩, xe_any, su_InvalidBakery___init__, sb_InvalidBakery___init__, sv_InvalidBakery___init__, xe_top⟩,
      xI_InvalidBakery := ⟨xic_InvalidBakery, xga_InvalidBakery, xgg_InvalidBakery, xeC_InvalidBakery, xhd_InvalidBakery, xca_InvalidBakery, xe_cg, xe_ct, xmo_InvalidBakery⟩,
      xm_InvalidBakery := PySem.W.exm_ref xe_base xe_dict xe_type sL_InvalidBakery___init__,
      b_InvalidBakery___init__ := B_InvalidBakery___init__,
      xk_InvalidDays_InvalidBakery := xk_InvalidDays_InvalidBakery,
      xk_InvalidDays_InvalidNumber := xk_InvalidDays_InvalidNumber,
      xk_InvalidDays_InvalidDays := xk_InvalidDays_InvalidDays,
      xk_InvalidDays_Contradiction := xk_InvalidDays_Contradiction,
      na_InvalidDays_index := na_InvalidDays_index,
      xv_InvalidDays := xv_InvalidDays,
      ox_InvalidDays := ⟨⟨_, _, _, _, _, _, _, _, _, _, _, _, _, _, _, xL_InvalidDays, xr_InvalidDays⟩, xsa_InvalidDays, xeC_InvalidDays, xtC_InvalidDays, xkC_InvalidDays⟩,
      xi_InvalidDays := xi_InvalidDays,
      xt_InvalidDays := xt_InvalidDays,
      xs_InvalidDays := ⟨⟨_, _, _, _, _, _, _, _, rfl, l_InvalidDays___init__, q_InvalidDays___init__⟩, ⟨_, _, _, _, _, _, lk_InvalidDays___init__, vf_InvalidDays___init__, fi_InvalidDays___init__⟩, ⟨_, _, _, ce_InvalidDays___init__⟩, xe_any, su_InvalidDays___init__, sb_InvalidDays___init__, sv_InvalidDays___init__, xe_top⟩,
      xI_InvalidDays := ⟨xic_InvalidDays, xga_InvalidDays, xgg_InvalidDays, xeC_InvalidDays, xhd_InvalidDays, xca_InvalidDays, xe_cg, xe_ct, xmo_InvalidDays⟩,
      xm_InvalidDays := PySem.W.exm_ref xe_base xe_dict xe_type sL_InvalidDays___init__,
      b_InvalidDays___init__ := B_InvalidDays___init__,
      g_check_number := PySem.W.mg_of X G a_check_number,
      F_check_number := F_check_number,
      b_check_number := B_check_number,
      g_count_keepable := PySem.W.mg_of X G a_count_keepable,
      F_count_keepable := F_count_keepable,
      b_count_keepable := B_count_keepable,
      mk_Course := ⟨mk_Course, a_Course___init__, i_Course___init__, kc_Course⟩,
      F_Course___init__ := F_Course___init__,
      b_Course___init__ := B_Course___init__,
      m_Course_stock_at := ⟨a_Course_stock_at, i_Course_stock_at, k_Course_stock_at⟩,
      F_Course_stock_at := F_Course_stock_at,
      b_Course_stock_at := B_Course_stock_at,
      m_Course_sales_on := ⟨a_Course_sales_on, i_Course_sales_on, k_Course_sales_on⟩,
      F_Course_sales_on := F_Course_sales_on,
      b_Course_sales_on := B_Course_sales_on,
      m_Course_find_settled := ⟨a_Course_find_settled, i_Course_find_settled, k_Course_find_settled⟩,
      F_Course_find_settled := F_Course_find_settled,
      b_Course_find_settled := B_Course_find_settled,
      m_Course_sum_settled_round := ⟨a_Course_sum_settled_round, i_Course_sum_settled_round, k_Course_sum_settled_round⟩,
      F_Course_sum_settled_round := F_Course_sum_settled_round,
      b_Course_sum_settled_round := B_Course_sum_settled_round,
      m_Course__play_round := ⟨a_Course__play_round, i_Course__play_round, k_Course__play_round⟩,
      F_Course__play_round := F_Course__play_round,
      b_Course__play_round := B_Course__play_round,
      m_Course__stocks_in := ⟨a_Course__stocks_in, i_Course__stocks_in, k_Course__stocks_in⟩,
      F_Course__stocks_in := F_Course__stocks_in,
      b_Course__stocks_in := B_Course__stocks_in,
      m_Course__misses_in := ⟨a_Course__misses_in, i_Course__misses_in, k_Course__misses_in⟩,
      F_Course__misses_in := F_Course__misses_in,
      b_Course__misses_in := B_Course__misses_in,
      m_Course__count_growing := ⟨a_Course__count_growing, i_Course__count_growing, k_Course__count_growing⟩,
      F_Course__count_growing := F_Course__count_growing,
      b_Course__count_growing := B_Course__count_growing,
      g_check_amounts := PySem.W.mg_of X G a_check_amounts,
      F_check_amounts := F_check_amounts,
      b_check_amounts := B_check_amounts,
      g_check_life := PySem.W.mg_of X G a_check_life,
      F_check_life := F_check_life,
      b_check_life := B_check_life,
      g_check_bakery := PySem.W.mg_of X G a_check_bakery,
      F_check_bakery := F_check_bakery,
      b_check_bakery := B_check_bakery,
      mk_Bakery := ⟨mk_Bakery, a_Bakery___init__, i_Bakery___init__, kc_Bakery⟩,
      F_Bakery___init__ := F_Bakery___init__,
      b_Bakery___init__ := B_Bakery___init__,
      pp_Bakery_bakes := ⟨a_Bakery_bakes, pg_Bakery_bakes, pt_Bakery_bakes, ⟨_, pr1_Bakery_bakes⟩⟩,
      F_Bakery_bakes := F_Bakery_bakes,
      b_Bakery_bakes := B_Bakery_bakes,
      pp_Bakery_life := ⟨a_Bakery_life, pg_Bakery_life, pt_Bakery_life, ⟨_, pr1_Bakery_life⟩⟩,
      F_Bakery_life := F_Bakery_life,
      b_Bakery_life := B_Bakery_life,
      m_Bakery_stock := ⟨a_Bakery_stock, i_Bakery_stock, k_Bakery_stock⟩,
      F_Bakery_stock := F_Bakery_stock,
      b_Bakery_stock := B_Bakery_stock,
      m_Bakery_sold := ⟨a_Bakery_sold, i_Bakery_sold, k_Bakery_sold⟩,
      F_Bakery_sold := F_Bakery_sold,
      b_Bakery_sold := B_Bakery_sold,
      m_Bakery_thrown := ⟨a_Bakery_thrown, i_Bakery_thrown, k_Bakery_thrown⟩,
      F_Bakery_thrown := F_Bakery_thrown,
      b_Bakery_thrown := B_Bakery_thrown,
      mk_LifeObserver := ⟨mk_LifeObserver, a_LifeObserver___init__, i_LifeObserver___init__, kc_LifeObserver⟩,
      F_LifeObserver___init__ := F_LifeObserver___init__,
      b_LifeObserver___init__ := B_LifeObserver___init__,
      pp_LifeObserver_possible_lives := ⟨a_LifeObserver_possible_lives, pg_LifeObserver_possible_lives, pt_LifeObserver_possible_lives, ⟨_, pr1_LifeObserver_possible_lives⟩⟩,
      F_LifeObserver_possible_lives := F_LifeObserver_possible_lives,
      b_LifeObserver_possible_lives := B_LifeObserver_possible_lives,
      pp_LifeObserver_records := ⟨a_LifeObserver_records, pg_LifeObserver_records, pt_LifeObserver_records, ⟨_, pr1_LifeObserver_records⟩⟩,
      F_LifeObserver_records := F_LifeObserver_records,
      b_LifeObserver_records := B_LifeObserver_records,
      m_LifeObserver_see_sold := ⟨a_LifeObserver_see_sold, i_LifeObserver_see_sold, k_LifeObserver_see_sold⟩,
      F_LifeObserver_see_sold := F_LifeObserver_see_sold,
      b_LifeObserver_see_sold := B_LifeObserver_see_sold,
      m_LifeObserver_see_thrown := ⟨a_LifeObserver_see_thrown, i_LifeObserver_see_thrown, k_LifeObserver_see_thrown⟩,
      F_LifeObserver_see_thrown := F_LifeObserver_see_thrown,
      b_LifeObserver_see_thrown := B_LifeObserver_see_thrown,
      m_LifeObserver_see_stock := ⟨a_LifeObserver_see_stock, i_LifeObserver_see_stock, k_LifeObserver_see_stock⟩,
      F_LifeObserver_see_stock := F_LifeObserver_see_stock,
      b_LifeObserver_see_stock := B_LifeObserver_see_stock,
      m_LifeObserver_telling_day := ⟨a_LifeObserver_telling_day, i_LifeObserver_telling_day, k_LifeObserver_telling_day⟩,
      F_LifeObserver_telling_day := F_LifeObserver_telling_day,
      b_LifeObserver_telling_day := B_LifeObserver_telling_day,
      m_LifeObserver__accept := ⟨a_LifeObserver__accept, i_LifeObserver__accept, k_LifeObserver__accept⟩,
      F_LifeObserver__accept := F_LifeObserver__accept,
      b_LifeObserver__accept := B_LifeObserver__accept,
      g__law_mix := PySem.W.mg_of X G a__law_mix,
      F__law_mix := F__law_mix,
      b__law_mix := B__law_mix,
      g__law_next := PySem.W.mg_of X G a__law_next,
      F__law_next := F__law_next,
      b__law_next := B__law_next,
      g__law_alike := PySem.W.mg_of X G a__law_alike,
      F__law_alike := F__law_alike,
      b__law_alike := B__law_alike,
      g__law_error := PySem.W.mg_of X G a__law_error,
      F__law_error := F__law_error,
      b__law_error := B__law_error,
      g__law_amounts := PySem.W.mg_of X G a__law_amounts,
      F__law_amounts := F__law_amounts,
      b__law_amounts := B__law_amounts,
      g__law_parts := PySem.W.mg_of X G a__law_parts,
      F__law_parts := F__law_parts,
      b__law_parts := B__law_parts,
      g__law_number := PySem.W.mg_of X G a__law_number,
      F__law_number := F__law_number,
      b__law_number := B__law_number,
      g__law_seen := PySem.W.mg_of X G a__law_seen,
      F__law_seen := F__law_seen,
      b__law_seen := B__law_seen,
      g__law_telling_right := PySem.W.mg_of X G a__law_telling_right,
      F__law_telling_right := F__law_telling_right,
      b__law_telling_right := B__law_telling_right,
      g_law := PySem.W.mg_of X G a_law,
      FC_law := funC_mk (st := s_law) l_law q_law,
      F_law := F_law,
      b_law := B_law }
  have all : ∀ (Pr : Addr × Addr → Prop), Pr (ka_law, tb_law) → ∀ p ∈ [(ka_law, tb_law)], Pr p := fun Pr hp p hm => by
    rw [List.mem_singleton.mp hm]; exact hp
  exact ⟨PySem.W.fnOf "law" "law" (defArgs s_law) (defBody s_law) (defScope s_law) .none kV_law dc_law pm_law an_law (.ref ka_law) ct_law, [(ka_law, tb_law)], sp_lawT K tb_law, all _ ht_law, all _ nt_law, all _ (PySem.W.codeHd_of_K X ch_law), fun s v => .of_eq rfl, fun H a ns hl _ hT hS => ⟨a, ns, rfl, hS, hl, hT (ka_law, tb_law) (by simp), fun _ => rfl⟩, fun base _ _ TB => ok_law T rfl (TB (ka_law, tb_law) (by simp))⟩
end Sw

open PySem PySem.W PyProof.Rows
set_option maxRecDepth 100000 in
set_option maxHeartbeats 0 in
theorem PySem.Challenge.cw_staleloaves_k09_whole_hidden_lives_holds : PySem.Challenge.rw_staleloaves_k09_whole_hidden_lives.Holds := by
  w_on; o_law; k_head; (case hw => w_witness2)
  k_fill
  refine LamX.walk_ofTs (l := PySem.Challenge.rw_staleloaves_k09_whole_hidden_lives) (n := 63) (k := 13) (x := "_law_script") (CX := fun _ => L2.CX0) rfl (by decide) rfl ⟨rfl, by decide, by decide⟩ (fun w h Y => PySem.W.km_in_of Y) ?F (fun _ _ _ _ _ z => z)
  case F =>
    intro w mg fa h Y KX G hmg
    refine' Sw.all_mk KX G hmg ?g_Course ?pg_Course ?hd_Course ?po_Course ?sa_Course ?mk_Course ?kc_Course ?g_Bakery ?pg_Bakery ?hd_Bakery ?po_Bakery ?sa_Bakery ?mk_Bakery ?kc_Bakery ?g_LifeObserver ?pg_LifeObserver ?hd_LifeObserver ?po_LifeObserver ?sa_LifeObserver ?mk_LifeObserver ?kc_LifeObserver ?na_Course__bakes ?na_Course__demands ?na_Course__keepable ?na_Course__gain ?na_Course__first_end ?na_Course__full_end ?na_Course__first_misses ?na_Course__later_misses ?na_Bakery__bakes ?na_Bakery__demands ?na_Bakery__life ?na_Bakery_course ?na_Bakery__settled_day ?na_Bakery__long_run ?rd_Bakery ?gt_Bakery ?cv_Bakery_MAX_DAYS ?cv_Bakery_MAX_LIFE ?na_LifeObserver__fitting ?na_LifeObserver__accepted ?g_MOST_LOAVES ?g_LAST_DAY ?b_ValueError ?b_bool ?b_dict ?b_divmod ?b_enumerate ?b_int ?b_isinstance ?b_len ?b_list ?b_max ?b_min ?b_range ?b_str ?b_sum ?b_super ?b_tuple ?b_zip ?g_LoafError ?g_InvalidBakery ?g_InvalidNumber ?g_InvalidDays ?g_Contradiction ?xe_base ?xe_dict ?xe_type ?xe_any ?xe_top ?xe_cg ?xe_ct ?xp_InvalidNumber ?xq_InvalidNumber ?xb_InvalidNumber ?xy_InvalidNumber ?xv_InvalidNumber ?xk_InvalidNumber_InvalidBakery ?xk_InvalidNumber_InvalidNumber ?xk_InvalidNumber_InvalidDays ?xk_InvalidNumber_Contradiction ?xhd_InvalidNumber ?xic_InvalidNumber ?xga_InvalidNumber ?xgg_InvalidNumber ?xca_InvalidNumber ?xmo_InvalidNumber ?sL_InvalidNumber ?xp_Contradiction ?xq_Contradiction ?xb_Contradiction ?xy_Contradiction ?xv_Contradiction ?xk_Contradiction_InvalidBakery ?xk_Contradiction_InvalidNumber ?xk_Contradiction_InvalidDays ?xk_Contradiction_Contradiction ?xhd_Contradiction ?xic_Contradiction ?xga_Contradiction ?xgg_Contradiction ?xca_Contradiction ?xmo_Contradiction ?sL_Contradiction ?xL_InvalidBakery ?xr_InvalidBakery ?xsa_InvalidBakery ?xkC_InvalidBakery ?xeC_InvalidBakery ?xtC_InvalidBakery ?xhd_InvalidBakery ?xic_InvalidBakery ?xga_InvalidBakery ?xgg_InvalidBakery ?xca_InvalidBakery ?xmo_InvalidBakery ?xi_InvalidBakery ?xt_InvalidBakery ?l_InvalidBakery___init__ ?q_InvalidBakery___init__ ?lk_InvalidBakery___init__ ?vf_InvalidBakery___init__ ?fi_InvalidBakery___init__ ?ce_InvalidBakery___init__ ?su_InvalidBakery___init__ ?sb_InvalidBakery___init__ ?sv_InvalidBakery___init__ ?sL_InvalidBakery___init__ ?xv_InvalidBakery ?xk_InvalidBakery_InvalidBakery ?xk_InvalidBakery_InvalidNumber ?xk_InvalidBakery_InvalidDays ?xk_InvalidBakery_Contradiction ?na_InvalidBakery_part ?na_InvalidBakery_index ?xL_InvalidDays ?xr_InvalidDays ?xsa_InvalidDays ?xkC_InvalidDays ?xeC_InvalidDays ?xtC_InvalidDays ?xhd_InvalidDays ?xic_InvalidDays ?xga_InvalidDays ?xgg_InvalidDays ?xca_InvalidDays ?xmo_InvalidDays ?xi_InvalidDays ?xt_InvalidDays ?l_InvalidDays___init__ ?q_InvalidDays___init__ ?lk_InvalidDays___init__ ?vf_InvalidDays___init__ ?fi_InvalidDays___init__ ?ce_InvalidDays___init__ ?su_InvalidDays___init__ ?sb_InvalidDays___init__ ?sv_InvalidDays___init__ ?sL_InvalidDays___init__ ?xv_InvalidDays ?xk_InvalidDays_InvalidBakery ?xk_InvalidDays_InvalidNumber ?xk_InvalidDays_InvalidDays ?xk_InvalidDays_Contradiction ?na_InvalidDays_index ?a_check_number ?l_check_number ?q_check_number ?k_check_number ?a_count_keepable ?l_count_keepable ?q_count_keepable ?k_count_keepable ?a_Course___init__ ?i_Course___init__ ?l_Course___init__ ?q_Course___init__ ?k_Course___init__ ?a_Course_stock_at ?i_Course_stock_at ?l_Course_stock_at ?q_Course_stock_at ?k_Course_stock_at ?a_Course_sales_on ?i_Course_sales_on ?l_Course_sales_on ?q_Course_sales_on ?k_Course_sales_on ?a_Course_find_settled ?i_Course_find_settled ?l_Course_find_settled ?q_Course_find_settled ?k_Course_find_settled ?a_Course_sum_settled_round ?i_Course_sum_settled_round ?l_Course_sum_settled_round ?q_Course_sum_settled_round ?k_Course_sum_settled_round ?a_Course__play_round ?i_Course__play_round ?l_Course__play_round ?q_Course__play_round ?k_Course__play_round ?a_Course__stocks_in ?i_Course__stocks_in ?l_Course__stocks_in ?q_Course__stocks_in ?k_Course__stocks_in ?a_Course__misses_in ?i_Course__misses_in ?l_Course__misses_in ?q_Course__misses_in ?k_Course__misses_in ?a_Course__count_growing ?i_Course__count_growing ?l_Course__count_growing ?q_Course__count_growing ?k_Course__count_growing ?a_check_amounts ?l_check_amounts ?q_check_amounts ?k_check_amounts ?a_check_life ?l_check_life ?q_check_life ?k_check_life ?a_check_bakery ?l_check_bakery ?q_check_bakery ?k_check_bakery ?a_Bakery___init__ ?i_Bakery___init__ ?l_Bakery___init__ ?q_Bakery___init__ ?k_Bakery___init__ ?a_Bakery_bakes ?pg_Bakery_bakes ?pt_Bakery_bakes ?pr1_Bakery_bakes ?l_Bakery_bakes ?q_Bakery_bakes ?k_Bakery_bakes ?a_Bakery_life ?pg_Bakery_life ?pt_Bakery_life ?pr1_Bakery_life ?l_Bakery_life ?q_Bakery_life ?k_Bakery_life ?a_Bakery_stock ?i_Bakery_stock ?l_Bakery_stock ?q_Bakery_stock ?k_Bakery_stock ?a_Bakery_sold ?i_Bakery_sold ?l_Bakery_sold ?q_Bakery_sold ?k_Bakery_sold ?a_Bakery_thrown ?i_Bakery_thrown ?l_Bakery_thrown ?q_Bakery_thrown ?k_Bakery_thrown ?a_LifeObserver___init__ ?i_LifeObserver___init__ ?l_LifeObserver___init__ ?q_LifeObserver___init__ ?k_LifeObserver___init__ ?a_LifeObserver_possible_lives ?pg_LifeObserver_possible_lives ?pt_LifeObserver_possible_lives ?pr1_LifeObserver_possible_lives ?l_LifeObserver_possible_lives ?q_LifeObserver_possible_lives ?k_LifeObserver_possible_lives ?a_LifeObserver_records ?pg_LifeObserver_records ?pt_LifeObserver_records ?pr1_LifeObserver_records ?l_LifeObserver_records ?q_LifeObserver_records ?k_LifeObserver_records ?a_LifeObserver_see_sold ?i_LifeObserver_see_sold ?l_LifeObserver_see_sold ?q_LifeObserver_see_sold ?k_LifeObserver_see_sold ?a_LifeObserver_see_thrown ?i_LifeObserver_see_thrown ?l_LifeObserver_see_thrown ?q_LifeObserver_see_thrown ?k_LifeObserver_see_thrown ?a_LifeObserver_see_stock ?i_LifeObserver_see_stock ?l_LifeObserver_see_stock ?q_LifeObserver_see_stock ?k_LifeObserver_see_stock ?a_LifeObserver_telling_day ?i_LifeObserver_telling_day ?l_LifeObserver_telling_day ?q_LifeObserver_telling_day ?k_LifeObserver_telling_day ?a_LifeObserver__accept ?i_LifeObserver__accept ?l_LifeObserver__accept ?q_LifeObserver__accept ?k_LifeObserver__accept ?a__law_mix ?l__law_mix ?q__law_mix ?k__law_mix ?a__law_next ?l__law_next ?q__law_next ?k__law_next ?a__law_alike ?l__law_alike ?q__law_alike ?k__law_alike ?a__law_error ?l__law_error ?q__law_error ?k__law_error ?a__law_amounts ?l__law_amounts ?q__law_amounts ?k__law_amounts ?a__law_parts ?l__law_parts ?q__law_parts ?k__law_parts ?a__law_number ?l__law_number ?q__law_number ?k__law_number ?a__law_seen ?l__law_seen ?q__law_seen ?k__law_seen ?a__law_telling_right ?l__law_telling_right ?q__law_telling_right ?k__law_telling_right ?a_law ?l_law ?q_law ?lc_law ?he_law ?ch_law ?nt_law ?ht_law ?k_law
    (case g_Course => k_is)
    (case pg_Course => k_is)
    (case hd_Course => k_is)
    (case po_Course => k_is)
    (case sa_Course => k_is)
    (case mk_Course => k_is)
    (case kc_Course => k_is)
    (case g_Bakery => k_is)
    (case pg_Bakery => k_is)
    (case hd_Bakery => k_is)
    (case po_Bakery => k_is)
    (case sa_Bakery => k_is)
    (case mk_Bakery => k_is)
    (case kc_Bakery => k_is)
    (case g_LifeObserver => k_is)
    (case pg_LifeObserver => k_is)
    (case hd_LifeObserver => k_is)
    (case po_LifeObserver => k_is)
    (case sa_LifeObserver => k_is)
    (case mk_LifeObserver => k_is)
    (case kc_LifeObserver => k_is)
    (case na_Course__bakes => k_is)
    (case na_Course__demands => k_is)
    (case na_Course__keepable => k_is)
    (case na_Course__gain => k_is)
    (case na_Course__first_end => k_is)
    (case na_Course__full_end => k_is)
    (case na_Course__first_misses => k_is)
    (case na_Course__later_misses => k_is)
    (case na_Bakery__bakes => k_is)
    (case na_Bakery__demands => k_is)
    (case na_Bakery__life => k_is)
    (case na_Bakery_course => k_is)
    (case na_Bakery__settled_day => k_is)
    (case na_Bakery__long_run => k_is)
    (case rd_Bakery => k_is)
    (case gt_Bakery => k_is)
    (case cv_Bakery_MAX_DAYS => k_is)
    (case cv_Bakery_MAX_LIFE => k_is)
    (case na_LifeObserver__fitting => k_is)
    (case na_LifeObserver__accepted => k_is)
    (case g_MOST_LOAVES => k_is)
    (case g_LAST_DAY => k_is)
    (case b_ValueError => k_is)
    (case b_bool => k_is)
    (case b_dict => k_is)
    (case b_divmod => k_is)
    (case b_enumerate => k_is)
    (case b_int => k_is)
    (case b_isinstance => k_is)
    (case b_len => k_is)
    (case b_list => k_is)
    (case b_max => k_is)
    (case b_min => k_is)
    (case b_range => k_is)
    (case b_str => k_is)
    (case b_sum => k_is)
    (case b_super => k_is)
    (case b_tuple => k_is)
    (case b_zip => k_is)
    (case g_LoafError => k_is)
    (case g_InvalidBakery => k_is)
    (case g_InvalidNumber => k_is)
    (case g_InvalidDays => k_is)
    (case g_Contradiction => k_is)
    (case xe_base => k_is)
    (case xe_dict => k_is)
    (case xe_type => k_is)
    (case xe_any => k_is)
    (case xe_top => kernel_rfl)
    (case xe_cg => k_is)
    (case xe_ct => k_is)
    (case xp_InvalidNumber => first | k_exc | kernel_rfl)
    (case xq_InvalidNumber => k_is)
    (case xb_InvalidNumber => k_is)
    (case xy_InvalidNumber => k_is)
    (case xv_InvalidNumber => first | kit_is | kernel_rfl)
    (case xk_InvalidNumber_InvalidBakery => first | kit_is | kernel_rfl)
    (case xk_InvalidNumber_InvalidNumber => first | kit_is | kernel_rfl)
    (case xk_InvalidNumber_InvalidDays => first | kit_is | kernel_rfl)
    (case xk_InvalidNumber_Contradiction => first | kit_is | kernel_rfl)
    (case xhd_InvalidNumber => k_is)
    (case xic_InvalidNumber => k_is)
    (case xga_InvalidNumber => k_is)
    (case xgg_InvalidNumber => k_is)
    (case xca_InvalidNumber => k_is)
    (case xmo_InvalidNumber => k_is)
    (case sL_InvalidNumber => k_is)
    (case xp_Contradiction => first | k_exc | kernel_rfl)
    (case xq_Contradiction => k_is)
    (case xb_Contradiction => k_is)
    (case xy_Contradiction => k_is)
    (case xv_Contradiction => first | kit_is | kernel_rfl)
    (case xk_Contradiction_InvalidBakery => first | kit_is | kernel_rfl)
    (case xk_Contradiction_InvalidNumber => first | kit_is | kernel_rfl)
    (case xk_Contradiction_InvalidDays => first | kit_is | kernel_rfl)
    (case xk_Contradiction_Contradiction => first | kit_is | kernel_rfl)
    (case xhd_Contradiction => k_is)
    (case xic_Contradiction => k_is)
    (case xga_Contradiction => k_is)
    (case xgg_Contradiction => k_is)
    (case xca_Contradiction => k_is)
    (case xmo_Contradiction => k_is)
    (case sL_Contradiction => k_is)
    (case xL_InvalidBakery => k_is)
    (case xr_InvalidBakery => first | rfl | kernel_rfl | decide +kernel)
    (case xsa_InvalidBakery => k_is)
    (case xkC_InvalidBakery => k_is)
    (case xeC_InvalidBakery => k_is)
    (case xtC_InvalidBakery => k_is)
    (case xhd_InvalidBakery => k_is)
    (case xic_InvalidBakery => k_is)
    (case xga_InvalidBakery => k_is)
    (case xgg_InvalidBakery => k_is)
    (case xca_InvalidBakery => k_is)
    (case xmo_InvalidBakery => k_is)
    (case xi_InvalidBakery => k_is)
    (case xt_InvalidBakery => k_is)
    (case l_InvalidBakery___init__ => k_is)
    (case q_InvalidBakery___init__ => k_is)
    (case lk_InvalidBakery___init__ => k_is)
    (case vf_InvalidBakery___init__ => rfl)
    (case fi_InvalidBakery___init__ => kernel_rfl)
    (case ce_InvalidBakery___init__ => k_is)
    (case su_InvalidBakery___init__ => kernel_rfl)
    (case sb_InvalidBakery___init__ => k_is)
    (case sv_InvalidBakery___init__ => k_is)
    (case sL_InvalidBakery___init__ => k_is)
    (case xv_InvalidBakery => first | kit_is | kernel_rfl)
    (case xk_InvalidBakery_InvalidBakery => first | kit_is | kernel_rfl)
    (case xk_InvalidBakery_InvalidNumber => first | kit_is | kernel_rfl)
    (case xk_InvalidBakery_InvalidDays => first | kit_is | kernel_rfl)
    (case xk_InvalidBakery_Contradiction => first | kit_is | kernel_rfl)
    (case na_InvalidBakery_part => k_is)
    (case na_InvalidBakery_index => k_is)
    (case xL_InvalidDays => k_is)
    (case xr_InvalidDays => first | rfl | kernel_rfl | decide +kernel)
    (case xsa_InvalidDays => k_is)
    (case xkC_InvalidDays => k_is)
    (case xeC_InvalidDays => k_is)
    (case xtC_InvalidDays => k_is)
    (case xhd_InvalidDays => k_is)
    (case xic_InvalidDays => k_is)
    (case xga_InvalidDays => k_is)
    (case xgg_InvalidDays => k_is)
    (case xca_InvalidDays => k_is)
    (case xmo_InvalidDays => k_is)
    (case xi_InvalidDays => k_is)
    (case xt_InvalidDays => k_is)
    (case l_InvalidDays___init__ => k_is)
    (case q_InvalidDays___init__ => k_is)
    (case lk_InvalidDays___init__ => k_is)
    (case vf_InvalidDays___init__ => rfl)
    (case fi_InvalidDays___init__ => kernel_rfl)
    (case ce_InvalidDays___init__ => k_is)
    (case su_InvalidDays___init__ => kernel_rfl)
    (case sb_InvalidDays___init__ => k_is)
    (case sv_InvalidDays___init__ => k_is)
    (case sL_InvalidDays___init__ => k_is)
    (case xv_InvalidDays => first | kit_is | kernel_rfl)
    (case xk_InvalidDays_InvalidBakery => first | kit_is | kernel_rfl)
    (case xk_InvalidDays_InvalidNumber => first | kit_is | kernel_rfl)
    (case xk_InvalidDays_InvalidDays => first | kit_is | kernel_rfl)
    (case xk_InvalidDays_Contradiction => first | kit_is | kernel_rfl)
    (case na_InvalidDays_index => k_is)
    (case a_check_number => k_is)
    (case l_check_number => k_is)
    (case q_check_number => k_is)
    (case k_check_number => k_is)
    (case a_count_keepable => k_is)
    (case l_count_keepable => k_is)
    (case q_count_keepable => k_is)
    (case k_count_keepable => k_is)
    (case a_Course___init__ => k_is)
    (case i_Course___init__ => k_is)
    (case l_Course___init__ => k_is)
    (case q_Course___init__ => k_is)
    (case k_Course___init__ => k_is)
    (case a_Course_stock_at => k_is)
    (case i_Course_stock_at => k_is)
    (case l_Course_stock_at => k_is)
    (case q_Course_stock_at => k_is)
    (case k_Course_stock_at => k_is)
    (case a_Course_sales_on => k_is)
    (case i_Course_sales_on => k_is)
    (case l_Course_sales_on => k_is)
    (case q_Course_sales_on => k_is)
    (case k_Course_sales_on => k_is)
    (case a_Course_find_settled => k_is)
    (case i_Course_find_settled => k_is)
    (case l_Course_find_settled => k_is)
    (case q_Course_find_settled => k_is)
    (case k_Course_find_settled => k_is)
    (case a_Course_sum_settled_round => k_is)
    (case i_Course_sum_settled_round => k_is)
    (case l_Course_sum_settled_round => k_is)
    (case q_Course_sum_settled_round => k_is)
    (case k_Course_sum_settled_round => k_is)
    (case a_Course__play_round => k_is)
    (case i_Course__play_round => k_is)
    (case l_Course__play_round => k_is)
    (case q_Course__play_round => k_is)
    (case k_Course__play_round => k_is)
    (case a_Course__stocks_in => k_is)
    (case i_Course__stocks_in => k_is)
    (case l_Course__stocks_in => k_is)
    (case q_Course__stocks_in => k_is)
    (case k_Course__stocks_in => k_is)
    (case a_Course__misses_in => k_is)
    (case i_Course__misses_in => k_is)
    (case l_Course__misses_in => k_is)
    (case q_Course__misses_in => k_is)
    (case k_Course__misses_in => k_is)
    (case a_Course__count_growing => k_is)
    (case i_Course__count_growing => k_is)
    (case l_Course__count_growing => k_is)
    (case q_Course__count_growing => k_is)
    (case k_Course__count_growing => k_is)
    (case a_check_amounts => k_is)
    (case l_check_amounts => k_is)
    (case q_check_amounts => k_is)
    (case k_check_amounts => k_is)
    (case a_check_life => k_is)
    (case l_check_life => k_is)
    (case q_check_life => k_is)
    (case k_check_life => k_is)
    (case a_check_bakery => k_is)
    (case l_check_bakery => k_is)
    (case q_check_bakery => k_is)
    (case k_check_bakery => k_is)
    (case a_Bakery___init__ => k_is)
    (case i_Bakery___init__ => k_is)
    (case l_Bakery___init__ => k_is)
    (case q_Bakery___init__ => k_is)
    (case k_Bakery___init__ => k_is)
    (case a_Bakery_bakes => k_is)
    (case pg_Bakery_bakes => k_is)
    (case pt_Bakery_bakes => k_is)
    (case pr1_Bakery_bakes => k_is)
    (case l_Bakery_bakes => k_is)
    (case q_Bakery_bakes => k_is)
    (case k_Bakery_bakes => k_is)
    (case a_Bakery_life => k_is)
    (case pg_Bakery_life => k_is)
    (case pt_Bakery_life => k_is)
    (case pr1_Bakery_life => k_is)
    (case l_Bakery_life => k_is)
    (case q_Bakery_life => k_is)
    (case k_Bakery_life => k_is)
    (case a_Bakery_stock => k_is)
    (case i_Bakery_stock => k_is)
    (case l_Bakery_stock => k_is)
    (case q_Bakery_stock => k_is)
    (case k_Bakery_stock => k_is)
    (case a_Bakery_sold => k_is)
    (case i_Bakery_sold => k_is)
    (case l_Bakery_sold => k_is)
    (case q_Bakery_sold => k_is)
    (case k_Bakery_sold => k_is)
    (case a_Bakery_thrown => k_is)
    (case i_Bakery_thrown => k_is)
    (case l_Bakery_thrown => k_is)
    (case q_Bakery_thrown => k_is)
    (case k_Bakery_thrown => k_is)
    (case a_LifeObserver___init__ => k_is)
    (case i_LifeObserver___init__ => k_is)
    (case l_LifeObserver___init__ => k_is)
    (case q_LifeObserver___init__ => k_is)
    (case k_LifeObserver___init__ => k_is)
    (case a_LifeObserver_possible_lives => k_is)
    (case pg_LifeObserver_possible_lives => k_is)
    (case pt_LifeObserver_possible_lives => k_is)
    (case pr1_LifeObserver_possible_lives => k_is)
    (case l_LifeObserver_possible_lives => k_is)
    (case q_LifeObserver_possible_lives => k_is)
    (case k_LifeObserver_possible_lives => k_is)
    (case a_LifeObserver_records => k_is)
    (case pg_LifeObserver_records => k_is)
    (case pt_LifeObserver_records => k_is)
    (case pr1_LifeObserver_records => k_is)
    (case l_LifeObserver_records => k_is)
    (case q_LifeObserver_records => k_is)
    (case k_LifeObserver_records => k_is)
    (case a_LifeObserver_see_sold => k_is)
    (case i_LifeObserver_see_sold => k_is)
    (case l_LifeObserver_see_sold => k_is)
    (case q_LifeObserver_see_sold => k_is)
    (case k_LifeObserver_see_sold => k_is)
    (case a_LifeObserver_see_thrown => k_is)
    (case i_LifeObserver_see_thrown => k_is)
    (case l_LifeObserver_see_thrown => k_is)
    (case q_LifeObserver_see_thrown => k_is)
    (case k_LifeObserver_see_thrown => k_is)
    (case a_LifeObserver_see_stock => k_is)
    (case i_LifeObserver_see_stock => k_is)
    (case l_LifeObserver_see_stock => k_is)
    (case q_LifeObserver_see_stock => k_is)
    (case k_LifeObserver_see_stock => k_is)
    (case a_LifeObserver_telling_day => k_is)
    (case i_LifeObserver_telling_day => k_is)
    (case l_LifeObserver_telling_day => k_is)
    (case q_LifeObserver_telling_day => k_is)
    (case k_LifeObserver_telling_day => k_is)
    (case a_LifeObserver__accept => k_is)
    (case i_LifeObserver__accept => k_is)
    (case l_LifeObserver__accept => k_is)
    (case q_LifeObserver__accept => k_is)
    (case k_LifeObserver__accept => k_is)
    (case a__law_mix => k_is)
    (case l__law_mix => k_is)
    (case q__law_mix => k_is)
    (case k__law_mix => k_is)
    (case a__law_next => k_is)
    (case l__law_next => k_is)
    (case q__law_next => k_is)
    (case k__law_next => k_is)
    (case a__law_alike => k_is)
    (case l__law_alike => k_is)
    (case q__law_alike => k_is)
    (case k__law_alike => k_is)
    (case a__law_error => k_is)
    (case l__law_error => k_is)
    (case q__law_error => k_is)
    (case k__law_error => k_is)
    (case a__law_amounts => k_is)
    (case l__law_amounts => k_is)
    (case q__law_amounts => k_is)
    (case k__law_amounts => k_is)
    (case a__law_parts => k_is)
    (case l__law_parts => k_is)
    (case q__law_parts => k_is)
    (case k__law_parts => k_is)
    (case a__law_number => k_is)
    (case l__law_number => k_is)
    (case q__law_number => k_is)
    (case k__law_number => k_is)
    (case a__law_seen => k_is)
    (case l__law_seen => k_is)
    (case q__law_seen => k_is)
    (case k__law_seen => k_is)
    (case a__law_telling_right => k_is)
    (case l__law_telling_right => k_is)
    (case q__law_telling_right => k_is)
    (case k__law_telling_right => k_is)
    (case a_law => k_is)
    (case l_law => k_is)
    (case q_law => k_is)
    (case lc_law => k_is)
    (case he_law => rfl)
    (case ch_law => kernel_rfl)
    (case nt_law => kernel_rfl)
    (case ht_law => exact PySem.W.km_tabs_of Y _ (by decide))
    (case k_law => k_is)
