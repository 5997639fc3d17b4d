import PyProof.Rows.All
import Wide.All
import OpenK.AllK
import Wide.FinOn
import HandS.ForMost
import KE.GoesMore
import KE.GoesEnum
import KE.KTupSum
import HandS.Evl
import HandS.TupAny
import HandS.Wide
import HandS.Style
import HandS.Property
import HandS.ClsMeth
import HandS.WideBits
import HandS.Steps
import HandS.Walk
import HandS.Strs
import HandS.SetFor
import HandS.IsInst
import KE.KLam
import HandS.Codes
import HandS.TryOnly
import HandS.Lambda
import HandS.Nested
import HandS.EndTab
import HandS.EndOwn
import HandS.ExcInit
import HandS.ExcOwn
import HandS.ExcField
import HandS.ExcIs
import HandS.WordsExc
import HandS.FStr
import KE.KSuper
import KE.KExcSuper
import KE.KExcIs
import HandS.TupMul
import HandS.Small
import HandS.Star
import KE.KOpsOwn
import PySem.Challenge.RW_staleloaves_k44_whole_profits
set_option Elab.async false
set_option linter.all false
set_option maxRecDepth 100000
set_option maxHeartbeats 4000000
namespace Sw
open PySem PySem.Spec PyProof.Rows L2
/-! ### zip of a tuple, a tuple and a list; enumerate of a tuple -/
def Itz3 (K : PySem.W.Frag) (a b c : Addr) : It :=
  ⟨fun i H => ∃ (xs ys zs : List V) (x y z : V), SqT K H a xs ∧ SqT K H b ys ∧ SqL K H c zs ∧ xs[i]? = some x ∧ ys[i]? = some y ∧ zs[i]? = some z,
    fun i H v H' => ∃ T x y z, v = .ref T ∧ H T = none ∧ H' = upd H T (.tup [x, y, z]) ∧ (∀ xs, SqT K H a xs → xs[i]? = some x) ∧ (∀ ys, SqT K H b ys → ys[i]? = some y) ∧ ∀ zs, SqL K H c zs → zs[i]? = some z,
    fun i H => ∃ xs ys zs : List V, SqT K H a xs ∧ SqT K H b ys ∧ SqL K H c zs ∧ xs.length = i ∧ ys.length = i ∧ zs.length = i⟩
theorem turn_zip3 {P : Program} {w : World} {K : PySem.W.Frag} {elts : List Expr} {kk : Nat} {tpos : Pos} {a b c z TI TO i1 i2 i3 : Addr}
    (D : ZipSep3 z TI TO i1 i2 i3 [i1, a] [i2, b] [i3, c]) (h1a : a ≠ i1) (h2b : b ≠ i2) (h3c : c ≠ i3) :
    Turn P w K (.Tuple elts kk tpos) (Itz3 K a b c) [z, TI, TO, i1, i2, i3] z (fun i h => IsZip h z TI TO .none ∧ IsTupOf3 h TI (.ref i1) (.ref i2) (.ref i3) ∧ (∃ x y u, IsTupOf3 h TO x y u) ∧ h.IsTupleIter i1 a i ∧ h.IsTupleIter i2 b i ∧ h.IsListIter i3 c i) where
  mem := by simp
  obj := fun i h st d hd => by
    obtain ⟨hz, hTI, ⟨x, y, u, hTO⟩, ⟨o1, e1, _, d1⟩, ⟨o2, e2, _, d2⟩, ⟨o3, e3, _, d3⟩⟩ := st
    have e' : d = z ∨ d = TI ∨ d = TO ∨ d = i1 ∨ d = i2 ∨ d = i3 := by simpa using hd
    rcases e' with q | q | q | q | q | q
    · rw [q]; exact ⟨_, hz, fun v q => nomatch q⟩
    · rw [q]; exact ⟨_, hTI, fun v q => nomatch q⟩
    · rw [q]; exact ⟨_, hTO, fun v q => nomatch q⟩
    · rw [q]; exact ⟨o1, e1, fun v q => by rw [d1] at q; cases q⟩
    · rw [q]; exact ⟨o2, e2, fun v q => by rw [d2] at q; cases q⟩
    · rw [q]; exact ⟨o3, e3, fun v q => by rw [d3] at q; cases q⟩
  keep := fun i h h' st k => by
    obtain ⟨hz, hTI, ⟨x, y, u, hTO⟩, h1, h2, h3⟩ := st
    exact ⟨k z (by simp) _ hz, k TI (by simp) _ hTI, ⟨x, y, u, k TO (by simp) _ hTO⟩, h1.at fun o q => k i1 (by simp) o q, h2.at fun o q => k i2 (by simp) o q, h3.at fun o q => k i3 (by simp) o q⟩
  item := by
    intro X hP hw hK hc i pins s σ H E I hf st hg
    subst hP hw hK
    obtain ⟨hz, hTI, ⟨x0, y0, u0, hTO⟩, h1, h2, h3⟩ := st
    obtain ⟨xs, ys, zs, x, y, u, hqx, hqy, hqz, hx, hy, hu⟩ := hg
    obtain ⟨its, rv, p, _⟩ := I.tuple hqx
    obtain ⟨its2, rv2, p2, _⟩ := I.tuple hqy
    obtain ⟨its3, rv3, p3, _⟩ := I.list hqz
    obtain ⟨u1, hu1, ru1⟩ := rv.get hx
    obtain ⟨u2, hu2, ru2⟩ := rv2.get hy
    obtain ⟨u3, hu3, ru3⟩ := rv3.get hu
    have hh : X.A.in1.handled = none := I.ok.hd hc
    have D1 := Draws.tuple (prog := X.prog) (w := X.w) (A := X.A.in1) hh i1 a h1a its.toArray
    have D2 := Draws.tuple (prog := X.prog) (w := X.w) (A := X.A.in1) hh i2 b h2b its2.toArray
    have D3 := Draws.list (prog := X.prog) (w := X.w) (A := X.A.in1) hh i3 c h3c its3.toArray
    have hzl : z < s.heap.objs.size := Heap.lt_size hz
    have lt1 : i < its.toArray.size := by simpa using (List.getElem?_eq_some_iff.mp hu1).1
    have lt2 : i < its2.toArray.size := by simpa using (List.getElem?_eq_some_iff.mp hu2).1
    have lt3 : i < its3.toArray.size := by simpa using (List.getElem?_eq_some_iff.mp hu3).1
    refine wpAny_pyNext_zipD3_item D D1 D2 D3 hz hTI hTO ⟨h1, p⟩ ⟨h2, p2⟩ ⟨h3, p3.isList⟩ lt1 lt2 lt3 fun x1 x2 x3 h' tk q1 q2 q3 z' TO' s1' s2' s3' hT hsz hk => ?_
    have e1 : x1 = u1 := by have q : its[i]? = some x1 := by simpa using q1
                            rw [hu1] at q; exact (Option.some.inj q).symm
    have e2 : x2 = u2 := by have q : its2[i]? = some x2 := by simpa using q2
                            rw [hu2] at q; exact (Option.some.inj q).symm
    have e3 : x3 = u3 := by have q : its3[i]? = some x3 := by simpa using q3
                            rw [hu3] at q; exact (Option.some.inj q).symm
    subst e1 e2 e3
    refine ⟨_, rfl, wpAny_letOwnedTupleGo_zip (s := { s with heap := h', toks := tk }) z' fun h'' z'' sb => ?_⟩
    have hT2 : h''.get? s.heap.objs.size = some { cls := .type "tuple", data := .seq #[x1, x2, x3] } := (sb.2 _ (Nat.ne_of_gt hzl)).trans hT
    have new : ObjOk X.prog X.w (upd H s.heap.objs.size (.tup [x, y, u])) h'' s.heap.objs.size (.tup [x, y, u]) :=
      ⟨by show 3 ≤ sizeLine; decide, [x1, x2, x3], .cons ru1 (.cons ru2 (.cons ru3 .nil)), ⟨_, hT2, rfl, _, rfl⟩⟩
    have I1 : Inv X pins σ (upd H s.heap.objs.size (.tup [x, y, u])) { s with heap := h'', toks := tk } :=
      I.turnedNew (t' := tk) (ch := [z, TI, TO, i1, i2, i3]) (fun d o hb q => (sb.2 d (fun q' => hb (by simp [q']))).trans (hk d o (fun q' => hb (by simp [q'])) (fun q' => hb (by simp [q'])) (fun q' => hb (by simp [q'])) (fun q' => hb (by simp [q'])) (fun q' => hb (by simp [q'])) q)) hf (Nat.le_refl _) new
    refine ⟨.ref s.heap.objs.size, _, I1, rfl, ⟨_, x, y, u, rfl, I.hok.fresh (Nat.le_refl _), rfl, fun l hl => by rw [I.tuple_inj hl hqx]; exact hx, fun l hl => by rw [I.tuple_inj hl hqy]; exact hy, fun l hl => by rw [I.list_inj hl hqz]; exact hu⟩, ⟨z'', ?_, ⟨x1, x2, x3, ?_⟩, ?_, ?_, ?_⟩, fun d hdm => ?_⟩
    · exact (sb.2 _ D.TIz).trans (hk _ _ D.TIz D.TITO D.TIi1 D.TIi2 D.TIi3 hTI)
    · exact (sb.2 _ D.TOz).trans TO'
    · exact s1'.1.at fun o q => (sb.2 _ D.zi1.symm).trans q
    · exact s2'.1.at fun o q => (sb.2 _ D.zi2.symm).trans q
    · exact s3'.1.at fun o q => (sb.2 _ D.zi3.symm).trans q
    · have hlt : d < s.heap.objs.size := by
        have e' : d = z ∨ d = TI ∨ d = TO ∨ d = i1 ∨ d = i2 ∨ d = i3 := by simpa using hdm
        rcases e' with q | q | q | q | q | q
        · rw [q]; exact hzl
        · rw [q]; exact Heap.lt_size hTI
        · rw [q]; exact Heap.lt_size hTO
        · rw [q]; obtain ⟨_, e1, _⟩ := h1; exact Heap.lt_size e1
        · rw [q]; obtain ⟨_, e2, _⟩ := h2; exact Heap.lt_size e2
        · rw [q]; obtain ⟨_, e3, _⟩ := h3; exact Heap.lt_size e3
      rw [upd_ne (Nat.ne_of_lt hlt)]
      exact (hf d hdm).1
  done := by
    intro X hP hw hK hc i pins s σ H E I hf st hg
    subst hP hw hK
    obtain ⟨hz, hTI, ⟨x0, y0, u0, hTO⟩, h1, h2, h3⟩ := st
    obtain ⟨xs, ys, zs, hqx, hqy, hqz, l1, l2, l3⟩ := hg
    obtain ⟨its, rv, p, _⟩ := I.tuple hqx
    obtain ⟨its2, rv2, p2, _⟩ := I.tuple hqy
    obtain ⟨its3, rv3, p3, _⟩ := I.list hqz
    have m1 : i = its.toArray.size := by have := rv.length; simp; omega
    have m2 : i = its2.toArray.size := by have := rv2.length; simp; omega
    have m3 : i = its3.toArray.size := by have := rv3.length; simp; omega
    have hh : X.A.in1.handled = none := I.ok.hd hc
    have D1 := Draws.tuple (prog := X.prog) (w := X.w) (A := X.A.in1) hh i1 a h1a its.toArray
    have D2 := Draws.tuple (prog := X.prog) (w := X.w) (A := X.A.in1) hh i2 b h2b its2.toArray
    have D3 := Draws.list (prog := X.prog) (w := X.w) (A := X.A.in1) hh i3 c h3c its3.toArray
    exact wpAny_pyNext_zipD3_end D D1 D2 D3 hz hTI hTO ⟨h1, p⟩ ⟨h2, p2⟩ ⟨h3, p3.isList⟩ (Nat.le_of_eq m1) (Nat.le_of_eq m2) (Nat.le_of_eq m3) (.inl m1) fun h' tk hk => ⟨rfl, I.turnedL (t' := tk) (ch := [z, TI, TO, i1, i2, i3]) (fun d o hb q =>
      hk d o (fun q' => hb (by simp [q'])) (fun q' => hb (by simp [q'])) (fun q' => hb (by simp [q'])) (fun q' => hb (by simp [q'])) (fun q' => hb (by simp [q'])) q) hf⟩
  self := fun A i s Q E st h => wpAny_pyIter_zip st.1 h
def iZip3 (K : PySem.W.Frag) (ta : TA) : TI := fun σ H R => ta σ H fun vs H1 => ∃ a b c xs ys zs, vs = [.ref a, .ref b, .ref c] ∧ SqT K H1 a xs ∧ SqT K H1 b ys ∧ SqL K H1 c zs ∧ R (Itz3 K a b c) H1
theorem pi_zip3 {X : Cx} {e e2 e3 : Expr} {ta : TA} {p pos tpos : Pos} {elts : List Expr} {kk : Nat} (hg : Gl X "zip") (hm : X.mg "zip" = none) (ha : PA X [e, e2, e3] ta)
    (hs : starEach [e, e2, e3] X.env = (false, eval e X.env) :: starEach [e2, e3] X.env := by rfl) (hpl : (backTo pos (starEach [e2, e3] X.env)).any (·.1) = false := by rfl) :
    PI X (.Tuple elts kk tpos) (.Call (.Name "zip" p) [e, e2, e3] [] pos) (iZip3 X.K ta) := by
  refine ⟨fun pins s σ H R I h => ?_⟩
  refine Call_ (ld_blt I hg hm PyProof.Rows.boot_zip (PyProof.Rows.callWith_type1 (thn (ha.run pos pins s σ H _ I h) fun us s1 ⟨vs, H1, I1, r1, q1⟩ => ?_) hs hpl))
  obtain ⟨a, b, c, xs, ys, zs, ex, hqx, hqy, hqz, q⟩ := q1
  subst ex
  cases r1 with
  | cons r rr =>
    cases rr with
    | cons r' rr =>
      cases rr with
      | cons r'' rr =>
        cases rr
        cases r
        cases r'
        cases r''
        obtain ⟨its, rv, p1, _⟩ := I1.tuple hqx
        obtain ⟨its2, rv2, p2, _⟩ := I1.tuple hqy
        obtain ⟨its3, rv3, p3, _⟩ := I1.list hqz
        have la : a < s1.heap.objs.size := p1.lt
        have lb : b < s1.heap.objs.size := p2.lt
        have lc : c < s1.heap.objs.size := p3.lt
        refine zip_begins3 (begins_tuple a its.toArray) (begins_tuple b its2.toArray) (begins_list c its3.toArray) p1 p2 p3.isList fun h' hz hTI hTO h1 h2 h3 hsz hk => wpAny_pyIter_zip hz ?_
        have I2 : Inv X pins σ H1 { s1 with heap := h' } := I1.kept (t' := s1.toks) hk
        have sep : ZipSep3 (s1.heap.objs.size + 5) (s1.heap.objs.size + 3) (s1.heap.objs.size + 4) s1.heap.objs.size (s1.heap.objs.size + 1) (s1.heap.objs.size + 2) [s1.heap.objs.size, a] [s1.heap.objs.size + 1, b] [s1.heap.objs.size + 2, c] :=
          zip_sep3 (N := s1.heap.objs.size) (fp1 := [a]) (fp2 := [b]) (fp3 := [c]) (fun d hd => by rw [List.mem_singleton.mp hd]; exact la) (fun d hd => by rw [List.mem_singleton.mp hd]; exact lb) (fun d hd => by rw [List.mem_singleton.mp hd]; exact lc)
        refine ⟨s1.heap.objs.size + 5, [s1.heap.objs.size + 5, s1.heap.objs.size + 3, s1.heap.objs.size + 4, s1.heap.objs.size, s1.heap.objs.size + 1, s1.heap.objs.size + 2], _, _, H1, rfl, I2,
          turn_zip3 sep (Nat.ne_of_lt la) (Nat.ne_of_lt (Nat.lt_succ_of_lt lb)) (Nat.ne_of_lt (Nat.lt_succ_of_lt (Nat.lt_succ_of_lt lc))), ⟨hz, hTI, ⟨_, _, _, hTO⟩, ⟨_, h1, rfl, rfl⟩, ⟨_, h2, rfl, rfl⟩, ⟨_, h3, rfl, rfl⟩⟩, fun d hdm => ?_, q⟩
        have e' : d = s1.heap.objs.size + 5 ∨ d = s1.heap.objs.size + 3 ∨ d = s1.heap.objs.size + 4 ∨ d = s1.heap.objs.size ∨ d = s1.heap.objs.size + 1 ∨ d = s1.heap.objs.size + 2 := by simpa using hdm
        have hle : s1.heap.objs.size ≤ d := by
          rcases e' with z | z | z | z | z | z
          · rw [z]; exact Nat.le_add_right _ _
          · rw [z]; exact Nat.le_add_right _ _
          · rw [z]; exact Nat.le_add_right _ _
          · rw [z]; exact Nat.le_refl _
          · rw [z]; exact Nat.le_add_right _ _
          · rw [z]; exact Nat.le_add_right _ _
        exact I1.fpOk hle (I1.hok.fresh hle)
/-- the tuple at a, each item in a new pair with its number -/
def IteT (K : PySem.W.Frag) (a : Addr) : It :=
  ⟨fun i H => ∃ (xs : List V) (x : V), SqT K H a xs ∧ xs[i]? = some x, fun i H v H' => ∃ T x, v = .ref T ∧ H T = none ∧ H' = upd H T (.tup [.int (i : Nat), x]) ∧ ∀ xs, SqT K H a xs → xs[i]? = some x, fun i H => ∃ xs : List V, SqT K H a xs ∧ xs.length = i⟩
theorem turn_enumT {P : Program} {w : World} {K : PySem.W.Frag} {elts : List Expr} {kk : Nat} {tpos : Pos} (a e it : Addr) (hai : a ≠ it) (hae : e ≠ a) :
    Turn P w K (.Tuple elts kk tpos) (IteT K a) [e, it] e (fun i h => (∃ old, IsEnum h e it ((i : Nat) : Int) old) ∧ h.IsTupleIter it a i ∧ e ≠ it) where
  mem := by simp
  obj := fun i h st b hb => by
    obtain ⟨⟨old, he⟩, ⟨o, ho, hc, hd⟩, _⟩ := st
    have e' : b = e ∨ b = it := by simpa using hb
    rcases e' with z | z
    · rw [z]; exact ⟨_, he, fun v q => nomatch q⟩
    · rw [z]; exact ⟨o, ho, fun v q => by rw [hd] at q; cases q⟩
  keep := fun i h h' st k => let ⟨⟨old, he⟩, hi, hne⟩ := st; ⟨⟨old, k e (by simp) _ he⟩, hi.at fun o q => k it (by simp) o q, hne⟩
  item := by
    intro X hP hw hK hc i pins s σ H E I hf st hg
    subst hP hw hK
    obtain ⟨⟨old, he⟩, hit, hne⟩ := st
    obtain ⟨xs, x, hq, hx⟩ := hg
    obtain ⟨its, rv, p, hz⟩ := I.tuple hq
    obtain ⟨u, hu, ru⟩ := rv.get hx
    have hel : e < s.heap.objs.size := Heap.lt_size he
    have hil : it < s.heap.objs.size := by obtain ⟨_, q, _⟩ := hit; exact Heap.lt_size q
    have hh : X.A.in1.handled = none := I.ok.hd hc
    have D1 := Draws.tuple (prog := X.prog) (w := X.w) (A := X.A.in1) hh it a hai its.toArray
    have lt1 : i < its.toArray.size := by simpa using (List.getElem?_eq_some_iff.mp hu).1
    have hef : e ∉ [it, a] := by simp [hne, hae]
    refine wpAny_pyNext_enum_itemD D1 he ⟨hit, p⟩ lt1 hne hef fun x1 h' tk q1 ho st' hT hsz hk => ?_
    have e1 : x1 = u := by have q : its[i]? = some x1 := by simpa using q1
                           rw [hu] at q; exact (Option.some.inj q).symm
    subst e1
    refine ⟨_, rfl, wpAny_letOwnedTupleGo_enum (s := { s with heap := h', toks := tk + 1 }) ho fun h'' he' sb => ?_⟩
    have hT2 : h''.get? s.heap.objs.size = some { cls := .type "tuple", data := .seq #[.int i tk, x1] } := (sb.2 _ (Nat.ne_of_gt hel)).trans hT
    have new : ObjOk X.prog X.w (upd H s.heap.objs.size (.tup [.int (i : Nat), x])) h'' s.heap.objs.size (.tup [.int (i : Nat), x]) :=
      ⟨by show 2 ≤ sizeLine; decide, [.int i tk, x1], .cons ⟨_, rfl⟩ (.cons ru .nil), ⟨_, hT2, rfl, _, rfl⟩⟩
    have I1 : Inv X pins σ (upd H s.heap.objs.size (.tup [.int (i : Nat), x])) { s with heap := h'', toks := tk + 1 } :=
      I.turnedNew (ch := [e, it]) (fun b ob hb q => (sb.2 b (fun z => hb (by simp [z]))).trans (hk b ob (fun z => hb (by simp [z])) (fun z => hb (by simp [z])) q)) hf (Nat.le_refl _) new
    refine ⟨.ref s.heap.objs.size, _, I1, rfl, ⟨_, x, rfl, I.hok.fresh (Nat.le_refl _), rfl, fun ys hy => by rw [I.tuple_inj hy hq]; exact hx⟩, ⟨⟨x1, ?_⟩, st'.1.at fun o q => (sb.2 it (Ne.symm hne)).trans q, hne⟩, fun b hb => ?_⟩
    · have e1 : ((i + 1 : Nat) : Int) = (i : Int) + 1 := by omega
      rw [e1]; exact he'
    · have hb' : b < s.heap.objs.size := by
        have e' : b = e ∨ b = it := by simpa using hb
        rcases e' with z | z
        · rw [z]; exact hel
        · rw [z]; exact hil
      rw [upd_ne (Nat.ne_of_lt hb')]
      exact (hf b hb).1
  done := by
    intro X hP hw hK hc i pins s σ H E I hf st hg
    subst hP hw hK
    obtain ⟨⟨old, he⟩, hit, hne⟩ := st
    obtain ⟨xs, hq, hx⟩ := hg
    obtain ⟨its, rv, p, hz⟩ := I.tuple hq
    obtain ⟨f0, f1, f2, f3, f4, f5⟩ := hf it (by simp)
    have hh : X.A.in1.handled = none := I.ok.hd hc
    have D1 := Draws.tuple (prog := X.prog) (w := X.w) (A := X.A.in1) hh it a hai its.toArray
    have m1 : its.toArray.size = i := by have := rv.length; simp; omega
    refine wpAny_pyNext_enum_endD D1 he ⟨by rw [m1]; exact hit, p⟩ fun h' eb => ⟨rfl, I.turned (t' := s.toks) (fun b o hb q => eb b o hb q) f0 f1 f3 f4 f5⟩
  self := fun A i s Q E st h => let ⟨⟨_, he⟩, _⟩ := st; wpAny_pyIter_enum he h

theorem meets_enumerate_newB1 {v : Value} {o : Obj} {H : Heap → Prop} (B : Begins v o H) :
    Meets (Builtin.«enumerate.__new__» ⟨[.type "enumerate", v], []⟩) (fun _ R s => H s.heap ∧
      R (.ok (.ret (.ref (s.heap.push o).objs.size))) { s with heap := (s.heap.push o).push { cls := .type "enumerate", data := .fields #[.none, .bool false, .ref s.heap.objs.size, rawInt 0, .none, .none] } }) :=
  .of_wp fun prog w A R s h => by
    obtain ⟨hp, g, d, tk, os⟩ := s; obtain ⟨h1, h⟩ := h
    have hsub := sub_enumerate
    have q1 : ∀ {A' : Around} {E : Value → Shared → Prop} {Q : Value → Shared → Prop}, Q (.ref hp.objs.size) ⟨hp.push o, g, d, tk, os⟩ → wpAny (model prog w) A' (pyIter v) Q E ⟨hp, g, d, tk, os⟩ :=
      fun q => B.iter prog w _ _ ⟨hp, g, d, tk, os⟩ _ h1 q
    wp_walk using q1
    refine wpAny_stack_any fun st => wpAny_pure ?_
    split
    · rename_i c _ _ _ _ _
      cases (c == Value.type "enumerate")
      · wp_walk using q1
        exact ⟨_, rfl, h⟩
      · wp_walk using q1
        exact ⟨_, rfl, h⟩
    · wp_walk using q1
      exact ⟨_, rfl, h⟩
theorem enum_begins1 {prog : Program} {w : World} {A : Around} {E : Value → Shared → Prop} {s : Shared} {v : Value} {o : Obj} {H : Heap → Prop} {Q : Value → Shared → Prop} (B : Begins v o H) (h1 : H s.heap)
    (h : ∀ h', IsEnum h' (s.heap.objs.size + 1) s.heap.objs.size 0 .none → h'.get? s.heap.objs.size = some o → h'.objs.size = s.heap.objs.size + 2 →
      (∀ b o, s.heap.get? b = some o → h'.get? b = some o) → Q (.ref (s.heap.objs.size + 1)) { s with heap := h' }) :
    wpAny (model prog w) A (call (.type "enumerate") [v]) Q E s := by
  refine callType_new F.called_enumerate (by decide) (F.typeCall_enumerate_1 _) (F.newCall_enumerate_1 _) (fun obj => F.args_object_init_2 obj _) F.entry_enumerate_new
    (meets_enumerate_newB1 B) ⟨h1, ?_⟩
  have hz : (s.heap.push o).objs.size = s.heap.objs.size + 1 := Heap.size_push ..
  show _ ∧ _
  rw [hz]
  have he : IsEnum ((s.heap.push o).push { cls := .type "enumerate", data := .fields #[.none, .bool false, .ref s.heap.objs.size, rawInt 0, .none, .none] }) (s.heap.objs.size + 1) s.heap.objs.size 0 .none := by
    have := Heap.get?_push_size (s.heap.push o) (o := { cls := .type "enumerate", data := .fields #[.none, .bool false, .ref s.heap.objs.size, rawInt 0, .none, .none] }) rfl
    rw [hz] at this; exact this
  refine ⟨⟨_, he, rfl⟩, h _ he (Heap.get?_push_of_some _ (Heap.get?_push_size _ B.free)) (by rw [Heap.size_push, hz]) fun b o x => Heap.get?_push_of_some _ (Heap.get?_push_of_some _ x)⟩
def iEnumT (K : PySem.W.Frag) (ta : TA) : TI := fun σ H R => ta σ H fun vs H1 => ∃ a xs, vs = [.ref a] ∧ SqT K H1 a xs ∧ R (IteT K a) H1
theorem pi_enumT {X : Cx} {e : Expr} {ta : TA} {p pos tpos : Pos} {elts : List Expr} {kk : Nat} (hg : Gl X "enumerate") (hm : X.mg "enumerate" = none) (ha : PA X [e] ta) (hs : starEach [e] X.env = [(false, eval e X.env)] := by rfl) :
    PI X (.Tuple elts kk tpos) (.Call (.Name "enumerate" p) [e] [] pos) (iEnumT X.K ta) := by
  refine ⟨fun pins s σ H R I h => ?_⟩
  refine Call_ (ld_blt I hg hm boot_enumerate (PyProof.Rows.callWith_type1 (thn (ha.run pos pins s σ H _ I h) fun us s1 ⟨vs, H1, I1, r1, q1⟩ => ?_) hs rfl))
  obtain ⟨a, xs, ex, hq, q⟩ := q1
  subst ex
  cases r1 with
  | cons r rr =>
    cases rr
    cases r
    obtain ⟨its, rv, p', hz⟩ := I1.tuple hq
    have la : a < s1.heap.objs.size := p'.lt
    refine enum_begins1 (begins_tuple a its.toArray) p' fun h' he hit hsz hk => wpAny_pyIter_enum he ?_
    have I2 : Inv X pins σ H1 { s1 with heap := h' } := I1.kept (t' := s1.toks) hk
    refine ⟨s1.heap.objs.size + 1, [s1.heap.objs.size + 1, s1.heap.objs.size], _, _, H1, rfl, I2, turn_enumT a (s1.heap.objs.size + 1) s1.heap.objs.size (Nat.ne_of_lt la) (Nat.ne_of_gt (Nat.lt_succ_of_lt la)), ⟨⟨.none, he⟩, ⟨_, hit, rfl, rfl⟩, Nat.succ_ne_self _⟩, fun b hb => ?_, q⟩
    have e' : b = s1.heap.objs.size + 1 ∨ b = s1.heap.objs.size := by simpa using hb
    have hle : s1.heap.objs.size ≤ b := by
      rcases e' with z | z
      · rw [z]; exact Nat.le_add_right _ _
      · rw [z]; exact Nat.le_refl _
    exact I1.fpOk hle (I1.hok.fresh hle)
end Sw
namespace Sw
open PySem PySem.Spec PyProof.Rows L2 Evl
/-! ### more rules: sum of a tuple -/
section
variable {X : Cx}
def rSumT (K : PySem.W.Frag) : List V → Hp → VK → Prop := fun vs H Q => ∃ (a : Addr) (ns : List Int), vs = [V.ref a] ∧ SqT K H a (ns.map V.int) ∧ Q (.int ns.sum) H
theorem cr_sumT (hc : X.calm = true) : CallR X (.builtin "sum") (rSumT X.K) := by
  intro pins s σ H vs us Q I r h
  obtain ⟨a, ns, rfl, hs, q⟩ := h
  obtain ⟨its, rv, hl, _⟩ := I.tuple hs
  rw [Vals.ref1 r]
  obtain ⟨xs, e⟩ := rv.ints.allInts.items
  have hn : numsOf (intItems xs).toList = ns := by rw [← e]; exact rv.ints.numsOf
  rw [nums_intItems] at hn
  have hl' : s.heap.IsTuple a (intItems xs) := by rw [← e]; exact hl
  refine PySem.W.ktm_sumG (I.ok.hd hc) hl' fun h' tk t' hk => ⟨.int ns.sum, H, I.kept hk, ⟨t', ?_⟩, q⟩
  rw [preSum_eq, List.take_of_length_le (by simp), hn]
theorem ps_no {st : Stmt} : PS X st (fun _ _ _ => False) := ⟨fun _ _ _ _ _ _ h => h.elim⟩
end
/-! ### what they evaluate to -/
section
variable {K : PySem.W.Frag} {σ : L2.St} {H H' : Hp} {ta tb te tx : TE} {x y z v : V}
theorem ev_sumN {ns : List Int} (h : EvL ta σ H (ns.map V.int)) : Ev (tCB (rSum K) (tCons ta tNil)) σ H (.int ns.sum) := fun H1 e Q q =>
  h H1 e _ fun p H2 _ e2 h2 => ⟨p, ns, rfl, sq_of h2, q H2 e2⟩
theorem ev_sumL {a : Addr} {ns : List Int} (h : Ev ta σ H (.ref a)) (hx : SqL K H a (ns.map V.int)) : Ev (tCB (rSum K) (tCons ta tNil)) σ H (.int ns.sum) := fun H1 e Q q =>
  h H1 e _ fun H2 e2 => ⟨a, ns, rfl, ex_l (e.trans e2) hx, q H2 e2⟩
theorem ev_sumT {a : Addr} {ns : List Int} (h : Ev ta σ H (.ref a)) (hx : SqT K H a (ns.map V.int)) : Ev (tCB (rSumT K) (tCons ta tNil)) σ H (.int ns.sum) := fun H1 e Q q =>
  h H1 e _ fun H2 e2 => ⟨a, ns, rfl, ex_t (e.trans e2) hx, q H2 e2⟩
theorem ev_lenT {a : Addr} {xs : List V} (h : Ev ta σ H (.ref a)) (hx : SqT K H a xs) : Ev (tCB (rLenS K) (tCons ta tNil)) σ H (.int (xs.length : Int)) := fun H1 e Q q =>
  h H1 e _ fun H2 e2 => ⟨a, xs, rfl, .inr (ex_t (e.trans e2) hx), q H2 e2⟩
theorem given_all (n : Nat) (v : Nat → V) : given n (fun _ => true) v = (List.range n).map v := by
  unfold given
  rw [List.filter_eq_self.mpr (fun _ _ => rfl)]
theorem et_yes : EvT tYes σ H true := fun H1 _ _ q => q H1 (Ex.refl H1)
/-- the comprehension over range(n), no test -/
theorem el_lcR {ta : TA} {j : Nat} {vs : List Nat} {n : Int} (v : Nat → V) (h : EvA ta σ H [.int n]) (hn : 0 ≤ n ∧ n ≤ 40000) (hw : ∀ x, wipe ((wipe σ vs).set j (some x)) vs = wipe σ vs)
    (he : ∀ (i : Nat) H1, Ex H H1 → (i : Int) < n → Ev te ((wipe σ vs).set j (some (.int (i : Int)))) H1 (v i)) :
    EvL (tLc (iRng1 ta) (gName j) tYes te vs) σ H ((List.range n.toNat).map v) := by
  rw [← given_all]
  exact el_lcR1 (fun _ => true) v h hn hw (fun _ _ _ _ => et_yes) (fun i H1 e hi _ => he i H1 e hi)
theorem atI_at {α : Type} {xs : List α} {i : Int} {d : α} (h0 : 0 ≤ i) (h1 : i < xs.length) : atI xs i = some (xs.getD i.toNat d) := by
  obtain ⟨j, rfl⟩ : ∃ j : Nat, i = (j : Int) := ⟨i.toNat, by omega⟩
  have hj : j < xs.length := by omega
  rw [atI_nat (v := xs[j]) (by simp [hj]), Int.toNat_natCast]
  simp [List.getD, hj]
end
end Sw
namespace Sw
open PySem PySem.Spec PyProof.Rows L2 Evl
/-! ### instances, methods, calls -/
section
variable {K : PySem.W.Frag} {σ : L2.St} {H H' : Hp} {ta tb te tx : TE} {x y z v : V} {a C dx : Addr} {fs : List (Str × V)} {f m : Str}
/-- the instance at a has the field -/
def Fl (H : Hp) (a C : Addr) (f : Str) (v : V) : Prop := ∃ dx fs, H a = some (.ins C dx fs) ∧ fs.lookup f = some v
/-- the instance at a has no such field -/
def NoF (H : Hp) (a C : Addr) (f : Str) : Prop := ∃ dx fs, H a = some (.ins C dx fs) ∧ fs.lookup f = none
theorem Fl.mono (e : Ex H H') (h : Fl H a C f v) : Fl H' a C f v := let ⟨dx, fs, h1, h2⟩ := h; ⟨dx, fs, e _ _ h1, h2⟩
theorem NoF.mono (e : Ex H H') (h : NoF H a C f) : NoF H' a C f := let ⟨dx, fs, h1, h2⟩ := h; ⟨dx, fs, e _ _ h1, h2⟩
theorem ev_fld (h : Ev ta σ H (.ref a)) (hf : Fl H a C f v) (c : Cls K C) (n : NoAttr K C f) : Ev (tFld K ta f) σ H v := fun H1 e Q q =>
  h H1 e _ fun H2 e2 => let ⟨dx, fs, h1, h2⟩ := hf; ⟨a, C, dx, fs, v, rfl, e2 _ _ (e _ _ h1), c, n, h2, q H2 e2⟩
/-- what a method's promise gives -/
theorem ev_meth {sp : Sp} {dvs vs : List V} {E : XK} {t : TA} (h : Ev ta σ H (.ref a)) (nf : NoF H a C m) (hv : EvA t σ H vs) (hs : SpV sp (.ref a :: (vs ++ dvs)) H z) : Ev (tMeth C m sp dvs E ta t) σ H z := fun H1 e Q q =>
  h H1 e _ fun H2 e2 => let ⟨dx, fs, h1, h2⟩ := nf; ⟨a, dx, fs, rfl, e2 _ _ (e _ _ h1), h2, hv H2 (e.trans e2) _ fun H3 e3 => hs H3 ((e.trans e2).trans e3) Q (fun H4 e4 => q H4 ((e2.trans e3).trans e4)) E⟩
theorem el_meth {sp : Sp} {dvs vs xs : List V} {E : XK} {t : TA} (h : Ev ta σ H (.ref a)) (nf : NoF H a C m) (hv : EvA t σ H vs) (hs : SpL sp (.ref a :: (vs ++ dvs)) H xs) : EvL (tMeth C m sp dvs E ta t) σ H xs := fun H1 e Q q =>
  h H1 e _ fun H2 e2 => let ⟨dx, fs, h1, h2⟩ := nf; ⟨a, dx, fs, rfl, e2 _ _ (e _ _ h1), h2, hv H2 (e.trans e2) _ fun H3 e3 => hs H3 ((e.trans e2).trans e3) Q (fun p H4 hp e4 h4 => q p H4 (fresh_back (e2.trans e3) hp) ((e2.trans e3).trans e4) h4) E⟩
/-- a new tuple -/
def SpU (sp : Sp) (vs : List V) (H : Hp) (xs : List V) : Prop := ∀ H1, Ex H H1 → ∀ Q : VK, (∀ p H2, H1 p = none → Ex H1 H2 → H2 p = some (.tup xs) → Q (.ref p) H2) → ∀ E : XK, sp vs H1 Q E
theorem eu_meth {sp : Sp} {dvs vs xs : List V} {E : XK} {t : TA} (h : Ev ta σ H (.ref a)) (nf : NoF H a C m) (hv : EvA t σ H vs) (hs : SpU sp (.ref a :: (vs ++ dvs)) H xs) : EvU (tMeth C m sp dvs E ta t) σ H xs := fun H1 e Q q =>
  h H1 e _ fun H2 e2 => let ⟨dx, fs, h1, h2⟩ := nf; ⟨a, dx, fs, rfl, e2 _ _ (e _ _ h1), h2, hv H2 (e.trans e2) _ fun H3 e3 => hs H3 ((e.trans e2).trans e3) Q (fun p H4 hp e4 h4 => q p H4 (fresh_back (e2.trans e3) hp) ((e2.trans e3).trans e4) h4) E⟩
theorem eu_call {sp : Sp} {dvs vs xs : List V} {E : XK} {ta : TA} (h : EvA ta σ H vs) (hs : SpU sp (vs ++ dvs) H xs) : EvU (tCall sp dvs E ta) σ H xs := fun H1 e Q q =>
  h H1 e _ fun H2 e2 => hs H2 (e.trans e2) Q (fun p H3 hp e3 h3 => q p H3 (fresh_back e2 hp) (e2.trans e3) h3) E
/-- an item of what a call hands back -/
theorem ev_ixNL {xs : List V} {i : Int} (h : EvL ta σ H xs) (hb : Ev tb σ H (.int i)) (ha : atI xs i = some v) : Ev (tOp (rIxL K) ta tb) σ H v := ev_opL1 h (fun H1 e => hb.mono e) fun p H1 hp _ => rv_ixL (K := K) (sq_of hp) ha
theorem ev_ixNU {xs : List V} {i : Int} (h : EvU ta σ H xs) (hb : Ev tb σ H (.int i)) (ha : atI xs i = some v) : Ev (tOp (rIxT K) ta tb) σ H v := fun H1 e Q q =>
  h H1 e _ fun p H2 _ e2 hp => hb H2 (e.trans e2) _ fun H3 e3 => rv_ixT (K := K) (st_of (e3 p _ hp)) ha H3 (Ex.refl H3) Q fun H4 e4 => q H4 ((e2.trans e3).trans e4)
theorem ev_ixL {p : Addr} {xs : List V} {i : Int} (h : Ev ta σ H (.ref p)) (hx : SqL K H p xs) (hb : Ev tb σ H (.int i)) (ha : atI xs i = some v) : Ev (tOp (rIxL K) ta tb) σ H v := ev_op h hb (rv_ixL hx ha)
theorem ev_ixT {p : Addr} {xs : List V} {i : Int} (h : Ev ta σ H (.ref p)) (hx : SqT K H p xs) (hb : Ev tb σ H (.int i)) (ha : atI xs i = some v) : Ev (tOp (rIxT K) ta tb) σ H v := ev_op h hb (rv_ixT hx ha)
/-- the smaller, the greater of two -/
def rMn : List V → Hp → VK → Prop := fun xs H Q => ∃ i j, xs = [.int i, .int j] ∧ Q (.int (if j < i then j else i)) H
theorem ev_min2 {i j : Int} (ha : Ev ta σ H (.int i)) (hb : Ev tb σ H (.int j)) : Ev (tCB rMn (tCons ta (tCons tb tNil))) σ H (.int (min i j)) := fun H1 e Q q =>
  ha H1 e _ fun H2 e2 => hb H2 (e.trans e2) _ fun H3 e3 => ⟨i, j, rfl, by
    have z : (if j < i then j else i) = min i j := by omega
    rw [z]; exact q H3 (e2.trans e3)⟩
theorem ev_maxi {i j : Int} (ha : Ev ta σ H (.int i)) (hb : Ev tb σ H (.int j)) : Ev (tCB rMax2 (tCons ta (tCons tb tNil))) σ H (.int (max i j)) := by
  have z : (if j > i then j else i) = max i j := by omega
  rw [← z]; exact ev_max2 ha hb
/-- divmod: a new pair -/
def rDm : List V → Hp → VK → Prop := fun xs H Q => ∃ i j, xs = [.int i, .int j] ∧ CDiv i j ∧ ∀ p, H p = none → Q (.ref p) (upd H p (.tup [.int (i / j), .int (i % j)]))
theorem eu_dm {i j : Int} (ha : Ev ta σ H (.int i)) (hb : Ev tb σ H (.int j)) (hc : CDiv i j) : EvU (tCB rDm (tCons ta (tCons tb tNil))) σ H [.int (i / j), .int (i % j)] := fun H1 e Q q =>
  ha H1 e _ fun H2 e2 => hb H2 (e.trans e2) _ fun H3 e3 => ⟨i, j, rfl, hc, fun p hp => q p _ (fresh_back (e2.trans e3) hp) ((e2.trans e3).trans (Ex.new hp)) upd_same⟩
theorem eu_tup {t : TA} {xs : List V} (h : EvA t σ H xs) (hz : xs.length ≤ 100000) : EvU (tTup t) σ H xs := fun H1 e Q q =>
  h H1 e _ fun H2 e2 => ⟨sz_of hz, fun p hp => q p _ (fresh_back e2 hp) (e2.trans (Ex.new hp)) upd_same⟩
theorem el_lst {t : TA} {xs : List V} (h : EvA t σ H xs) (hz : xs.length ≤ 100000) : EvL (tLst t) σ H xs := fun H1 e Q q =>
  h H1 e _ fun H2 e2 => ⟨sz_of hz, fun p hp => q p _ (fresh_back e2 hp) (e2.trans (Ex.new hp)) upd_same⟩
theorem Ev.int_eq {i j : Int} (h : Ev te σ H (.int i)) (e : i = j) : Ev te σ H (.int j) := e ▸ h
/-- a, b = a new pair -/
theorem s_pair {i j : Nat} {D : Ends} {x y : V} (h : EvU te σ H [x, y]) (k : ∀ H1, Ex H H1 → D.nx ((σ.set i (some x)).set j (some y)) H1) : tAsg te (gTup K 2 (gCons (gName i) (gCons (gName j) gNil))) D σ H :=
  h H (Ex.refl H) _ fun p H1 _ e hp => ⟨p, [x, y], rfl, st_of hp, rfl, x, [y], rfl, y, [], rfl, rfl, k H1 e⟩
theorem q_pair {i j : Nat} {D : Ends} {x y : V} {tz : TS} (h : EvU te σ H [x, y]) (k : ∀ H1, Ex H H1 → tz D ((σ.set i (some x)).set j (some y)) H1) : tSeq (tAsg te (gTup K 2 (gCons (gName i) (gCons (gName j) gNil)))) tz D σ H :=
  s_pair (D := { D with nx := tz D }) h k
end
/-! ### the rules with the written part named -/
section
variable {X : Cx}
theorem pe_fldK (K : PySem.W.Frag) {e : Expr} {f : Str} {pos : Pos} {ta : TE} (hK : X.K = K) (he : PE X e ta) (hb : attributeBase e f X.env (eval e X.env) = eval e X.env) : PE X (.Attribute e f pos) (tFld K ta f) := by
  subst hK; exact pe_fld he hb
theorem pi_listK (K : PySem.W.Frag) {tg l : Expr} {tl : TE} (hK : X.K = K) (hl : PE X l tl) : PI X tg l (iList K tl) := by
  subst hK; exact pi_list hl
theorem pi_tupK (K : PySem.W.Frag) {tg l : Expr} {tl : TE} (hK : X.K = K) (hl : PE X l tl) : PI X tg l (iTup K tl) := by
  subst hK; exact pi_tup hl
theorem pi_enumTK (K : PySem.W.Frag) {e : Expr} {ta : TA} {p pos tpos : Pos} {elts : List Expr} {kk : Nat} (hK : X.K = K) (hg : Gl X "enumerate") (hm : X.mg "enumerate" = none) (ha : PA X [e] ta) (hs : starEach [e] X.env = [(false, eval e X.env)] := by rfl) :
    PI X (.Tuple elts kk tpos) (.Call (.Name "enumerate" p) [e] [] pos) (iEnumT K ta) := by
  subst hK; exact pi_enumT hg hm ha hs
theorem pg_tupK (K : PySem.W.Frag) {es : List Expr} {k : Nat} {t : TGs} {n : Nat} {pos : Pos} (hK : X.K = K) (hc : X.calm = true) (h : PGs X es t)
    (hn : (assignEach es X.env).length = n := by rfl) (hst : (assignEach es X.env).findIdx? (·.1) = none := by rfl) : PG X (.Tuple es k pos) (gTup K n t) := by
  subst hK; exact pg_tup hc h hn hst
end
/-! ### the promises' shapes -/
def RetU (xs : List V) (H : Hp) (Q : VK) : Prop := ∀ p H2, H p = none → Ex H H2 → H2 p = some (.tup xs) → Q (.ref p) H2
end Sw
namespace Sw
open PySem PySem.Spec PyProof.Rows L2 Evl
section
variable {K : PySem.W.Frag} {σ : L2.St} {H H' : Hp} {ta tb te tx : TE} {x y z v : V} {a C dx : Addr} {fs : List (Str × V)} {f m : Str} {D : Ends} {tz : TS}
/-- o.f = e -/
theorem q_fld (h : Ev te σ H v) (ho : ∀ H1, Ex H H1 → Ev ta σ H1 (.ref a)) (hx : H a = some (.ins C dx fs)) (c : Cls K C) (n : NoAttr K C f) (hl : fs.length < 1000) (k : ∀ H1, Ex H H1 → tz D σ (upd H1 a (.ins C dx (putF f v fs)))) : tSeq (sFld K ta te f) tz D σ H :=
  h H (Ex.refl H) _ fun H1 e1 => ho H1 e1 H1 (Ex.refl H1) _ fun H2 e2 => ⟨a, C, dx, fs, rfl, e2 _ _ (e1 _ _ hx), c, n, hl, k H2 (e1.trans e2)⟩
theorem s_fld (h : Ev te σ H v) (ho : ∀ H1, Ex H H1 → Ev ta σ H1 (.ref a)) (hx : H a = some (.ins C dx fs)) (c : Cls K C) (n : NoAttr K C f) (hl : fs.length < 1000) (k : ∀ H1, Ex H H1 → D.nx σ (upd H1 a (.ins C dx (putF f v fs)))) : sFld K ta te f D σ H :=
  h H (Ex.refl H) _ fun H1 e1 => ho H1 e1 H1 (Ex.refl H1) _ fun H2 e2 => ⟨a, C, dx, fs, rfl, e2 _ _ (e1 _ _ hx), c, n, hl, k H2 (e1.trans e2)⟩
theorem q_fldL {xs : List V} (h : EvL te σ H xs) (ho : ∀ H1, Ex H H1 → Ev ta σ H1 (.ref a)) (hx : H a = some (.ins C dx fs)) (c : Cls K C) (n : NoAttr K C f) (hl : fs.length < 1000) (k : ∀ p H1, H p = none → Ex H H1 → H1 p = some (.lst xs) → tz D σ (upd H1 a (.ins C dx (putF f (.ref p) fs)))) : tSeq (sFld K ta te f) tz D σ H :=
  h H (Ex.refl H) _ fun p H1 hp e1 h1 => ho H1 e1 H1 (Ex.refl H1) _ fun H2 e2 => ⟨a, C, dx, fs, rfl, e2 _ _ (e1 _ _ hx), c, n, hl, k p H2 hp (e1.trans e2) (e2 _ _ h1)⟩
theorem s_fldL {xs : List V} (h : EvL te σ H xs) (ho : ∀ H1, Ex H H1 → Ev ta σ H1 (.ref a)) (hx : H a = some (.ins C dx fs)) (c : Cls K C) (n : NoAttr K C f) (hl : fs.length < 1000) (k : ∀ p H1, H p = none → Ex H H1 → H1 p = some (.lst xs) → D.nx σ (upd H1 a (.ins C dx (putF f (.ref p) fs)))) : sFld K ta te f D σ H :=
  h H (Ex.refl H) _ fun p H1 hp e1 h1 => ho H1 e1 H1 (Ex.refl H1) _ fun H2 e2 => ⟨a, C, dx, fs, rfl, e2 _ _ (e1 _ _ hx), c, n, hl, k p H2 hp (e1.trans e2) (e2 _ _ h1)⟩
theorem s_fldU {xs : List V} (h : EvU te σ H xs) (ho : ∀ H1, Ex H H1 → Ev ta σ H1 (.ref a)) (hx : H a = some (.ins C dx fs)) (c : Cls K C) (n : NoAttr K C f) (hl : fs.length < 1000) (k : ∀ p H1, H p = none → Ex H H1 → H1 p = some (.tup xs) → D.nx σ (upd H1 a (.ins C dx (putF f (.ref p) fs)))) : sFld K ta te f D σ H :=
  h H (Ex.refl H) _ fun p H1 hp e1 h1 => ho H1 e1 H1 (Ex.refl H1) _ fun H2 e2 => ⟨a, C, dx, fs, rfl, e2 _ _ (e1 _ _ hx), c, n, hl, k p H2 hp (e1.trans e2) (e2 _ _ h1)⟩
/-- the heap, the one object at x forgotten -/
def wo (H : Hp) (x : Addr) : Hp := fun b => if b = x then none else H b
theorem wo_self {H : Hp} {x : Addr} : wo H x x = none := by unfold wo; rw [if_pos rfl]
theorem wo_ne {H : Hp} {x b : Addr} (h : b ≠ x) : wo H x b = H b := by unfold wo; rw [if_neg h]
theorem wo_ex {H : Hp} {x : Addr} : Ex (wo H x) H := fun b o h => by
  by_cases e : b = x
  · rw [e, wo_self] at h; cases h
  · rwa [wo_ne e] at h
theorem wo_t {H : Hp} {x a : Addr} {xs : List V} {o : HO} (hx : H x = some o) (ho : ∀ u v, o ≠ .frz u v) (hn : ∀ ys, o ≠ .tup ys) (h : SqT K H a xs) : SqT K (wo H x) a xs := by
  rcases h with (h | ⟨u, h⟩) | h
  · refine .inl (.inl ?_)
    rw [wo_ne]
    · exact h
    · intro e; rw [e, hx] at h; exact hn xs (Option.some.inj h)
  · refine .inl (.inr ⟨u, ?_⟩)
    rw [wo_ne]
    · exact h
    · intro e; rw [e, hx] at h; exact ho u _ (Option.some.inj h)
  · exact .inr h
end
end Sw
namespace Sw
open PySem PySem.Spec PyProof.Rows L2 Evl
/-! ### walks of three, and of a tuple's items with their numbers -/
section
variable {K : PySem.W.Frag} {σ : L2.St} {H H' : Hp} {ta tb te tx tl : TE} {x y z v : V} {a b c : Addr} {xs ys zs : List V} {n : Nat}
def YTrip (xs ys zs : List V) : Nat → Hp → V → Hp → Prop := fun i H v H' => ∃ T x y z, v = .ref T ∧ H T = none ∧ H' = upd H T (.tup [x, y, z]) ∧ xs[i]? = some x ∧ ys[i]? = some y ∧ zs[i]? = some z
theorem walk_zip3 (lx : xs.length = n) (ly : ys.length = n) (lz : zs.length = n) : Walk (Itz3 K a b c) n (fun H => SqT K H a xs ∧ SqT K H b ys ∧ SqL K H c zs) (YTrip xs ys zs) := by
  refine ⟨fun i _ hi q => ⟨xs, ys, zs, xs[i]'(by omega), ys[i]'(by omega), zs[i]'(by omega), q.1, q.2.1, q.2.2, by simp, by simp, by simp⟩, fun _ q => ⟨xs, ys, zs, q.1, q.2.1, q.2.2, lx, ly, lz⟩, fun i H v H' _ q h => ?_⟩
  obtain ⟨T, x, y, z, h1, h2, h3, h4, h5, h6⟩ := h
  exact ⟨T, x, y, z, h1, h2, h3, h4 xs q.1, h5 ys q.2.1, h6 zs q.2.2⟩
theorem walk_enumT : Walk (IteT K a) xs.length (fun H => SqT K H a xs) (YPair (fun i => some (.int (i : Nat))) (fun i => xs[i]?)) := by
  refine ⟨fun i _ hi q => ⟨xs, xs[i], q, by simp⟩, fun _ q => ⟨xs, q, rfl⟩, fun i H v H' _ q h => ?_⟩
  obtain ⟨T, x, h1, h2, h3, h4⟩ := h
  exact ⟨T, .int (i : Nat), x, h1, h2, h3, rfl, h4 xs q⟩
variable {D : Ends} {tu tz : TS}
theorem q_forZ3 {tt : TA} {j1 j2 j3 : Nat} {G : Hp} (h : EvA tt σ H [.ref a, .ref b, .ref c]) (eG : Ex G H) (hx : SqT K G a xs) (hy : SqT K G b ys) (hz : SqL K G c zs) (lx : xs.length = n) (ly : ys.length = n) (lz : zs.length = n)
    (Pv : Nat → L2.St → Hp → Prop) (h0 : ∀ H1, Ex H H1 → Pv 0 σ H1) (hG : ∀ i σ' H', i ≤ n → Pv i σ' H' → Ex G H')
    (hs : ∀ i x y z σ' H', xs[i]? = some x → ys[i]? = some y → zs[i]? = some z → Pv i σ' H' → ∀ H2, Ex H' H2 → tu { D with nx := Pv (i + 1), ct := Pv (i + 1), bk := tz D } (((σ'.set j1 (some x)).set j2 (some y)).set j3 (some z)) H2)
    (hd : ∀ σ' H', Pv n σ' H' → tz D σ' H') : tSeq (tFor (iZip3 K tt) (gTup K 3 (gCons (gName j1) (gCons (gName j2) (gCons (gName j3) gNil)))) tu) tz D σ H :=
  h H (Ex.refl H) _ fun H1 e1 => ⟨a, b, c, xs, ys, zs, rfl, ex_t (eG.trans e1) hx, ex_t (eG.trans e1) hy, ex_l (eG.trans e1) hz,
    for_it (walk_zip3 lx ly lz) Pv (h0 H1 e1) (fun i σ' H' hi p => ⟨ex_t (hG i σ' H' hi p) hx, ex_t (hG i σ' H' hi p) hy, ex_l (hG i σ' H' hi p) hz⟩)
      (fun i v σ' H' H2 hi p q => by
        obtain ⟨T, x, y, z, rfl, hT, rfl, q1, q2, q3⟩ := q
        exact ⟨T, [x, y, z], rfl, st_of upd_same, rfl, x, [y, z], rfl, y, [z], rfl, z, [], rfl, rfl, hs i x y z σ' H' q1 q2 q3 p _ (Ex.new hT)⟩) hd⟩
/-- for i, x in enumerate(t), t a tuple -/
theorem s_forEnT {tt : TA} {j1 j2 : Nat} (h : EvA tt σ H [.ref a]) (hx : SqT K H a xs)
    (Pv : Nat → L2.St → Hp → Prop) (h0 : ∀ H1, Ex H H1 → Pv 0 σ H1) (hG : ∀ i σ' H', i ≤ xs.length → Pv i σ' H' → Ex H H')
    (hs : ∀ i x σ' H', xs[i]? = some x → Pv i σ' H' → ∀ H2, Ex H' H2 → tu { D with nx := Pv (i + 1), ct := Pv (i + 1), bk := D.nx } ((σ'.set j1 (some (.int (i : Nat)))).set j2 (some x)) H2)
    (hd : ∀ σ' H', Pv xs.length σ' H' → D.nx σ' H') : tFor (iEnumT K tt) (gTup K 2 (gCons (gName j1) (gCons (gName j2) gNil))) tu D σ H :=
  h H (Ex.refl H) _ fun H1 e1 => ⟨a, xs, rfl, ex_t e1 hx,
    for_it walk_enumT Pv (h0 H1 e1) (fun i σ' H' hi p => ex_t (hG i σ' H' hi p) hx)
      (fun i v σ' H' H2 hi p q => by
        obtain ⟨T, x, y, rfl, hT, rfl, q1, q2⟩ := q
        cases q1
        exact ⟨T, [.int (i : Nat), y], rfl, st_of upd_same, rfl, .int (i : Nat), [y], rfl, y, [], rfl, rfl, hs i y σ' H' q2 p _ (Ex.new hT)⟩) hd⟩
/-- [e for i, x in enumerate(t)] -/
theorem el_lcEnT {tt : TA} {j1 j2 : Nat} {vs : List Nat} (v : Nat → V) (h : EvA tt σ H [.ref a]) (hx : SqT K H a xs) (hz : xs.length ≤ 40000)
    (hw : ∀ x y, wipe (((wipe σ vs).set j1 (some x)).set j2 (some y)) vs = wipe σ vs)
    (he : ∀ (i : Nat) (x : V) H1, Ex H H1 → xs[i]? = some x → Ev te (((wipe σ vs).set j1 (some (.int (i : Nat)))).set j2 (some x)) H1 (v i)) :
    EvL (tLc (iEnumT K tt) (gTup K 2 (gCons (gName j1) (gCons (gName j2) gNil))) tYes te vs) σ H ((List.range xs.length).map v) := fun H0 e0 Q q =>
  h H0 e0 _ fun H1 e1 => ⟨a, xs, rfl, ex_t (e0.trans e1) hx, fun Dl hD => by
    rw [← given_all] at q
    refine lc_it (walk_enumT (xs := xs)) (Cw H1 (fun _ => true) v Dl) ⟨hD, Ex.new hD, upd_same⟩ (fun i H' _ p => ex_t ((e0.trans e1).trans p.2.1) hx) (fun i w H' H2 hi p y => ?_) (fun H' p => q Dl H' (fresh_back e1 p.1) (e1.trans p.2.1) p.2.2)
    obtain ⟨T, x, y, rfl, hT, rfl, q1, q2⟩ := y
    cases q1
    have p2 : Cw H1 (fun _ => true) v Dl i (upd H' T (.tup [.int (i : Nat), y])) := ⟨p.1, p.2.1.trans (Ex.new hT), by rw [upd_ne (ne_of_none p.2.2 hT)]; exact p.2.2⟩
    refine ⟨T, [.int (i : Nat), y], rfl, st_of upd_same, rfl, .int (i : Nat), [y], rfl, y, [], rfl, rfl, hw _ _, ?_⟩
    exact cw_turn p2 (by omega) et_yes (fun _ => he i y H1 (e0.trans e1) q2)⟩
/-- some tuple, some list of these items -/
def EvW (K : PySem.W.Frag) (te : TE) (σ : L2.St) (H : Hp) (xs : List V) : Prop := ∀ H1, Ex H H1 → ∀ Q : VK, (∀ p H2, Ex H1 H2 → SqT K H2 p xs → Q (.ref p) H2) → te σ H1 Q
def EvM (K : PySem.W.Frag) (te : TE) (σ : L2.St) (H : Hp) (xs : List V) : Prop := ∀ H1, Ex H H1 → ∀ Q : VK, (∀ p H2, Ex H1 H2 → SqL K H2 p xs → Q (.ref p) H2) → te σ H1 Q
theorem EvU.w (h : EvU te σ H xs) : EvW K te σ H xs := fun H1 e Q q => h H1 e Q fun p H2 _ e2 hp => q p H2 e2 (st_of hp)
theorem EvL.m (h : EvL te σ H xs) : EvM K te σ H xs := fun H1 e Q q => h H1 e Q fun p H2 _ e2 hp => q p H2 e2 (sq_of hp)
theorem ew_of (h : Ev te σ H (.ref a)) (hx : SqT K H a xs) : EvW K te σ H xs := fun H1 e Q q => h H1 e Q fun H2 e2 => q a H2 e2 (ex_t (e.trans e2) hx)
theorem em_of (h : Ev te σ H (.ref a)) (hx : SqL K H a xs) : EvM K te σ H xs := fun H1 e Q q => h H1 e Q fun H2 e2 => q a H2 e2 (ex_l (e.trans e2) hx)
theorem ev_sumW {ns : List Int} (h : EvW K ta σ H (ns.map V.int)) : Ev (tCB (rSumT K) (tCons ta tNil)) σ H (.int ns.sum) := fun H1 e Q q =>
  h H1 e _ fun p H2 e2 h2 => ⟨p, ns, rfl, h2, q H2 e2⟩
theorem ev_sumM {ns : List Int} (h : EvM K ta σ H (ns.map V.int)) : Ev (tCB (rSum K) (tCons ta tNil)) σ H (.int ns.sum) := fun H1 e Q q =>
  h H1 e _ fun p H2 e2 h2 => ⟨p, ns, rfl, h2, q H2 e2⟩
/-- t[:k] -/
theorem ew_take {th : TE} {k : Nat} (h : EvW K te σ H xs) (hk : Ev th σ H (.int (k : Int))) : EvW K (tSl (rSlA K) te tNoPart (tPart th)) σ H (xs.take k) := fun H1 e Q q =>
  h H1 e _ fun p H2 e2 h2 => hk H2 (e.trans e2) _ fun H3 e3 => ⟨(k : Int), rfl, p, xs, rfl, ex_t e3 h2, fun w => by
      have hi : min k xs.length = xs.length := by rw [← HT.sIx_nat xs.length xs.length k]; exact w.2
      have t : xs.take k = xs := List.take_of_length_le (by omega)
      rw [t] at q
      exact q p H3 (e2.trans e3) (ex_t e3 h2), fun _ r hr => by
      refine q r _ ((e2.trans e3).trans (Ex.new hr)) (st_of ?_)
      rw [upd_same]
      unfold cutV
      rw [HT.sIx_none, HT.sIx_nat]
      simp⟩
/-- xs[:k] of a list -/
theorem el_take {th : TE} {k : Nat} (h : EvM K te σ H xs) (hk : Ev th σ H (.int (k : Int))) : EvL (tSl (rSlL K) te tNoPart (tPart th)) σ H (xs.take k) := fun H1 e Q q =>
  h H1 e _ fun p H2 e2 h2 => hk H2 (e.trans e2) _ fun H3 e3 => ⟨(k : Int), rfl, p, xs, rfl, ex_l e3 h2, fun r hr => by
      refine q r _ (fresh_back (e2.trans e3) hr) ((e2.trans e3).trans (Ex.new hr)) ?_
      rw [upd_same]
      unfold cutV
      rw [HT.sIx_none, HT.sIx_nat]
      simp⟩
end
end Sw
namespace Sw
open PySem PySem.Spec PyProof.Rows L2 Evl
/-! ### max of a tuple of numbers -/
section
variable {prog : Program} {w : World} {A : Around} {E : Value → Shared → Prop} {s : Shared} {t : Addr} {xs : Array (Int × Tok)}
theorem max_intTup {Q : Value → Shared → Prop} (hh : A.handled = none) (ht : s.heap.IsTuple t (intItems xs)) (hne : 0 < xs.size)
    (h : ∀ v h' tk, (intItems xs)[argBest (fun i j => decide (numAt xs i > numAt xs j)) (xs.size - 1)]? = some v → (∀ b o, s.heap.get? b = some o → h'.get? b = some o) → Q v { s with heap := h', toks := tk }) :
    wpAny (model prog w) A (call (.builtin "max") [.ref t]) Q E s := by
  obtain ⟨o, ho, _, _, _⟩ := id ht
  have hlt : t < s.heap.objs.size := Heap.lt_size ho
  have hne' : t ≠ s.heap.objs.size := Nat.ne_of_lt hlt
  refine call_max_walk (wpAny_pyIter_tuple ht ?_)
  refine ⟨_, _, _, _, _, _, _, rfl, Walks.tuple (A := A.in1) hh _ t hne' (intItems xs), ⟨⟨_, Heap.get?_push_size _ rfl, rfl, rfl⟩, ht.at fun o e => Heap.get?_push_of_some _ e⟩, fun b hb => ?_, by simpa [intItems] using hne, CmpOf.ints_gt (numAt xs) (fun _ _ => intItems_at), fun v h' tk hP hk => ?_⟩
  · show b < (s.heap.push _).objs.size
    rw [Heap.size_push]
    rcases List.mem_cons.mp hb with rfl | hb
    · exact Nat.lt_succ_self _
    · rw [List.mem_singleton.mp hb]; exact Nat.lt_succ_of_lt hlt
  · refine h v h' tk (by simpa [intItems] using hP) fun b o e => hk b o (fun hm => ?_) (Heap.get?_push_of_some _ e)
    exact absurd (List.mem_singleton.mp hm ▸ Heap.lt_size e) (Nat.lt_irrefl _)
end
section
variable {X : Cx}
def rMaxT (K : PySem.W.Frag) : List V → Hp → VK → Prop := fun vs H Q => ∃ (a : Addr) (ns : List Int), vs = [V.ref a] ∧ SqT K H a (ns.map V.int) ∧ 0 < ns.length ∧ ∀ m, m ∈ ns → (∀ y, y ∈ ns → y ≤ m) → Q (.int m) H
theorem cr_maxT (hc : X.calm = true) : CallR X (.builtin "max") (rMaxT X.K) := by
  intro pins s σ H vs us Q I r h
  obtain ⟨a, ns, rfl, hs, hne, q⟩ := h
  obtain ⟨its, rv, hl, _⟩ := I.tuple hs
  rw [Vals.ref1 r]
  obtain ⟨xs, e⟩ := rv.ints.allInts.items
  have hn : numsOf (intItems xs).toList = ns := by rw [← e]; exact rv.ints.numsOf
  rw [nums_intItems] at hn
  subst hn
  have hl' : s.heap.IsTuple a (intItems xs) := by rw [← e]; exact hl
  have hsz : 0 < xs.size := by simpa using hne
  refine max_intTup (I.ok.hd hc) hl' hsz fun v h' tk hv hk => ?_
  obtain ⟨t', rfl⟩ := intItems_at hv
  obtain ⟨h1, h2⟩ := argBest_gt (numAt xs) (xs.size - 1)
  refine ⟨.int _, H, I.kept hk, ⟨t', rfl⟩, q _ ?_ fun y hy => ?_⟩
  · rw [numAt_eq]; exact PySem.getD_mem (by rw [List.length_map, Array.length_toList]; omega)
  · obtain ⟨j, hj, rfl⟩ := mem_getD hy
    rw [List.length_map, Array.length_toList] at hj
    rw [← numAt_eq]; exact h2 j (by omega)
end
theorem ev_maxT {K : PySem.W.Frag} {σ : L2.St} {H : Hp} {ta : TE} {a : Addr} {ns : List Int} {Qm : Int → Prop} (h : Ev ta σ H (.ref a)) (hx : SqT K H a (ns.map V.int)) (h0 : 0 < ns.length) :
    ∀ H1, Ex H H1 → ∀ Q : VK, (∀ m H2, Ex H1 H2 → m ∈ ns → (∀ y ∈ ns, y ≤ m) → Q (.int m) H2) → tCB (rMaxT K) (tCons ta tNil) σ H1 Q := fun H1 e Q q =>
  h H1 e _ fun H2 e2 => ⟨a, ns, rfl, ex_t (e.trans e2) hx, h0, fun m hm hle => q m H2 e2 hm hle⟩
end Sw
namespace Sw
open PySem PySem.Spec PyProof.Rows L2 Evl
section
variable {K : PySem.W.Frag} {σ : L2.St} {H H' : Hp} {ta tb te tl : TE} {x y z v : V} {a b : Addr} {xs ys : List V}
theorem ev_isN (h : Ev ta σ H x) : Ev (tIsN ta) σ H (.bl (decide (x = .non))) := fun H1 e1 Q q => h H1 e1 _ fun H2 e2 => q H2 e2
theorem ev_eqNil (ha : EvL ta σ H xs) (hb : EvL tb σ H []) (hx : xs = []) : Ev (tOp (rEqD K) ta tb) σ H (.bl true) := ev_opLL ha hb fun p q H1 hp hq _ => fun H2 e2 Q k => by
  subst hx
  exact ⟨.list [], .list [], .lst (sq_of (e2 _ _ hp)) .nil, .lst (sq_of (e2 _ _ hq)) .nil, by decide, by decide, by
    have : PyData.eqv (.list []) (.list []) = true := by decide
    rw [this]; exact k H2 (Ex.refl _)⟩
theorem given_none {n : Nat} {f : Nat → Bool} {v : Nat → V} (h : ∀ i, i < n → f i = false) : given n f v = [] := by
  unfold given
  have : (List.range n).filter f = [] := List.filter_eq_nil_iff.mpr fun i hi => by rw [h i (List.mem_range.mp hi)]; decide
  rw [this]; rfl
/-- two new lists, joined -/
theorem el_catN (ha : EvL ta σ H xs) (hb : EvL tb σ H ys) (hz : xs.length + ys.length ≤ 100000) : EvL (tOp rCat ta tb) σ H (xs ++ ys) := fun H1 e Q q =>
  ha H1 e _ fun p H2 _ e2 hp => hb H2 (e.trans e2) _ fun r H3 _ e3 hr => ⟨p, r, xs, ys, rfl, rfl, e3 _ _ hp, hr, sz_of hz, fun t ht => q t _ (fresh_back (e2.trans e3) ht) ((e2.trans e3).trans (Ex.new ht)) upd_same⟩
theorem el_lcRb {t : TA} {j : Nat} {vs : List Nat} {lo n : Int} (v : Nat → V) (h : EvA t σ H [.int lo, .int n]) (hn : 0 ≤ lo ∧ lo ≤ 10000 ∧ 0 ≤ n ∧ n ≤ 10000) (hw : ∀ x, wipe ((wipe σ vs).set j (some x)) vs = wipe σ vs)
    (he : ∀ (i : Nat) H1, Ex H H1 → lo + (i : Int) < n → Ev te ((wipe σ vs).set j (some (.int (lo + (i : Int))))) H1 (v i)) : EvL (tLc (iRng2 t) (gName j) tYes te vs) σ H ((List.range (n - lo).toNat).map v) := fun H0 e Q q => h H0 e _ fun H1 e1 => by
  rw [← given_all] at q
  exact ⟨lo, n, rfl, ⟨by omega, by omega, by omega, by omega⟩, fun Dl hD =>
    lc_range (lo := lo) (n := (n - lo).toNat) (Cw H1 (fun _ => true) v Dl) ⟨hD, Ex.new hD, upd_same⟩ (fun i H' hi p => ⟨hw _, cw_turn p (by omega) et_yes (fun _ => he i H1 (e.trans e1) (by omega))⟩) (fun H' p => q Dl H' (fresh_back e1 p.1) (e1.trans p.2.1) p.2.2)⟩
end
end Sw
namespace Sw
open PySem PySem.Spec PyProof.Rows L2 Evl
/-- the heap, the objects of N forgotten -/
noncomputable def wn (H : Hp) (N : Addr → Prop) : Hp := fun b => @ite _ (N b) (Classical.propDecidable _) none (H b)
theorem wn_in {H : Hp} {N : Addr → Prop} {b : Addr} (h : N b) : wn H N b = none := by unfold wn; rw [if_pos h]
theorem wn_ni {H : Hp} {N : Addr → Prop} {b : Addr} (h : ¬ N b) : wn H N b = H b := by unfold wn; rw [if_neg h]
theorem wn_some {H : Hp} {N : Addr → Prop} {b : Addr} {o : HO} (h : wn H N b = some o) : ¬ N b ∧ H b = some o := by
  by_cases q : N b
  · rw [wn_in q] at h; cases h
  · rw [wn_ni q] at h; exact ⟨q, h⟩
theorem wn_ex {H : Hp} {N : Addr → Prop} : Ex (wn H N) H := fun _ _ h => (wn_some h).2
theorem wn_mono {H H' : Hp} {N : Addr → Prop} (e : Ex H H') : Ex (wn H N) (wn H' N) := fun b o h => by
  obtain ⟨q, h1⟩ := wn_some h
  rw [wn_ni q]; exact e b o h1
theorem wn_upd {H : Hp} {N : Addr → Prop} {x : Addr} {o : HO} (hx : N x) : Ex (wn H N) (wn (upd H x o) N) := fun b u h => by
  obtain ⟨q, h1⟩ := wn_some h
  have nb : b ≠ x := fun z => q (by rw [z]; exact hx)
  rw [wn_ni q, upd_ne nb]; exact h1
theorem wn_sub {H : Hp} {N M : Addr → Prop} (h : ∀ b, N b → M b) : Ex (wn H M) (wn H N) := fun b o q => by
  obtain ⟨q1, h1⟩ := wn_some q
  rw [wn_ni fun z => q1 (h b z)]; exact h1
theorem wn_t {K : PySem.W.Frag} {H : Hp} {N : Addr → Prop} {a : Addr} {xs : List V} (ha : ¬ N a) (h : SqT K H a xs) : SqT K (wn H N) a xs := by
  rcases h with (h | ⟨u, h⟩) | h
  · exact .inl (.inl (by rw [wn_ni ha]; exact h))
  · exact .inl (.inr ⟨u, by rw [wn_ni ha]; exact h⟩)
  · exact .inr h
def nx (x : Addr) (N : Addr → Prop) : Addr → Prop := fun b => b = x ∨ N b
theorem wn_tx {K : PySem.W.Frag} {H : Hp} {N : Addr → Prop} {x a C dx : Addr} {fs : List (Str × V)} {xs : List V} (hx : H x = some (.ins C dx fs)) (h : SqT K (wn H N) a xs) : SqT K (wn H (nx x N)) a xs := by
  have go : ∀ u, wn H N a = some u → (∀ C dx fs, u ≠ .ins C dx fs) → wn H (nx x N) a = some u := fun u hu hne => by
    obtain ⟨q, h1⟩ := wn_some hu
    rw [wn_ni]
    · exact h1
    · rintro (e | e)
      · rw [e, hx] at h1; exact hne _ _ _ (Option.some.inj h1).symm
      · exact q e
  rcases h with (h | ⟨u, h⟩) | h
  · exact .inl (.inl (go _ h (fun _ _ _ q => nomatch q)))
  · exact .inl (.inr ⟨u, go _ h (fun _ _ _ q => nomatch q)⟩)
  · exact .inr h
end Sw
namespace Sw
open PySem PySem.Spec PyProof.Rows L2 Evl LamX NdefX
/-! ### lambdas that capture names: their objects -/
structure LF where
  qual : Str
  params : Arguments
  body : Expr
  scope : Scope
  cl : List (Str × Addr)
  c : Addr
  dv : Value
abbrev LF.fd (F : LF) (pm ctv : Value) : FuncData := { PySem.W.kla_fn "<lambda>" F.qual F.params F.body F.scope F.cl pm (.ref F.c) ctv with defaults := F.dv }
abbrev LF.nf (F : LF) : NF := ⟨"<lambda>", F.qual, F.params, [], F.scope, F.cl, F.c⟩
def LamO (f : Addr) (F : LF) : HO := .ext fun h => ∃ (od : Option Addr) (sl : Array (Option Value)) (pm ctv : Value), h.get? f = some (⟨.type "function", od, .func (F.fd pm ctv), sl⟩ : Obj)
theorem lamO_at {P : Program} {w : World} {H : Hp} {h : Heap} {f : Addr} {F : LF} (hok : HOk P w H h) (e : H f = some (LamO f F)) : ∃ (od : Option Addr) (sl : Array (Option Value)) (pm ctv : Value), h.get? f = some (⟨.type "function", od, .func (F.fd pm ctv), sl⟩ : Obj) := (hok f _ e).1
theorem lamO_tbl {f : Addr} {F : LF} (ps : Array Value) : LamO f F ≠ .tbl ps := fun z => by unfold LamO at z; cases z
/-! ### the end of a function's making, whatever its defaults -/
section
variable {M : Model} {A : Around} {E Q : Value → Shared → Prop} {s : Shared} {nm ql : Str} {pr : Arguments} {bd : Expr} {sc : Scope} {en : Env} {cc TP : Addr} {ts : Array Value} {po : Pos} {ln : Nat} {mg : Str → Option Value} {cl : List (Str × Addr)} {dv : Value}
abbrev fnDv (ql : Str) (pr : Arguments) (bd : Expr) (sc : Scope) (cl : List (Str × Addr)) (nm : Str) (pm c ct dv : Value) : FuncData := { PySem.W.kla_fn nm ql pr bd sc cl pm c ct with defaults := dv }
theorem tail_hit {cv : Value} (a1 : closureFor sc en = pure cl) (a2 : en.globals = mainGlobals) (a3 : s.heap.Ns mainGlobals mg) (a4 : en.code = .ref cc) (a5 : PySem.W.CodeHd s.heap cc TP) (a6 : s.heap.get? TP = some (PySem.W.tabObj ts)) (a7 : TriplesOk ts.toList) (a8 : codeAmong po ts.toList = some cv) (a9 : s.heap.BuiltinsAt mg TP)
    (k : ∀ (ct : Value) (g : Heap) (n : Tok), (∀ b o, s.heap.get? b = some o → g.get? b = some o) → s.heap.objs.size ≤ g.objs.size → Q (.ref g.objs.size) { s with heap := g.push { cls := .type "function", data := .func (fnDv ql pr bd sc cl nm ((mg "__name__").getD .none) cv ct dv) }, toks := n }) :
    wpAny M A (makeTail nm ql pr (.expr bd) sc en dv .none none po ln) Q E s := by
  obtain ⟨u1, u2, e1, e2, e3, e4, e5, e6, e7, e8⟩ := a9
  unfold makeTail; rw [a1, a2]; apply wpAny_bind; apply wpAny_pure
  rcases cl with _ | ⟨q, r⟩
  · rw [if_pos (List.isEmpty_nil)]
    apply wpAny_bind; apply wpAny_pure
    exact wpAny_bind (wpAny_functionCode_hit a4 (a5.code a6 a7) a8 (wpAny_bind (wpAny_builtinsFor a3 e1 e2 e5 e6 e7 e8 (wpAny_bind (wpAny_nsGet a3 (wpAny_bind (wpAny_pure (wpAny_newObj_type (k .none s.heap s.toks (fun _ _ e => e) (Nat.le_refl _)) (by size_fits)))))))))
  · rw [if_neg (by simp)]
    refine wpAny_bind (wpAny_newTextTuple ?_)
    exact wpAny_bind (wpAny_functionCode_hit a4 ((a5.keeps fun b o e => Heap.get?_push_of_some _ e).code (Heap.get?_push_of_some _ a6) a7) a8 (wpAny_bind (wpAny_builtinsFor (a3.push _) e1 e2 (Heap.get?_push_of_some _ e5) e6 e7 e8 (wpAny_bind (wpAny_nsGet (a3.push _)
      (wpAny_bind (wpAny_pure (wpAny_newObj_type (k _ _ s.toks (fun b o e => Heap.get?_push_of_some _ e) (by rw [Heap.size_push]; omega)) (by size_fits)))))))))
theorem tail_new (a1 : closureFor sc en = pure cl) (a2 : en.globals = mainGlobals) (a3 : s.heap.Ns mainGlobals mg) (a4 : en.code = .ref cc) (a5 : PySem.W.CodeHd s.heap cc TP) (a6 : s.heap.get? TP = some (PySem.W.tabObj ts)) (a7 : TriplesOk ts.toList) (a8 : codeAmong po ts.toList = none) (a0 : mainGlobals ≠ TP) (a9 : s.heap.BuiltinsAt mg TP)
    (k : ∀ c' ct g n, Heap.ExtBut TP s.heap g → s.heap.objs.size ≤ c' → c' < g.objs.size → g.CodeRec (.ref c') ql → g.get? TP = some (PySem.W.tabObj (ts ++ #[rawInt po.line, rawInt po.col, .ref c'])) → Q (.ref g.objs.size) { s with heap := g.push { cls := .type "function", data := .func (fnDv ql pr bd sc cl nm ((mg "__name__").getD .none) (.ref c') ct dv) }, toks := n }) :
    wpAny M A (makeTail nm ql pr (.expr bd) sc en dv .none none po ln) Q E s := by
  obtain ⟨u1, u2, e1, e2, e3, e4, e5, e6, e7, e8⟩ := a9
  unfold makeTail; rw [a1, a2]; apply wpAny_bind; apply wpAny_pure
  rcases cl with _ | ⟨q, r⟩
  · rw [if_pos (List.isEmpty_nil)]
    apply wpAny_bind; apply wpAny_pure
    refine wpAny_bind (wpAny_functionCodeX a4 (a5.code a6 a7) (a5.tab a6) a8 fun c' g n x1 x2 x3 _ x4 x5 _ => ?_)
    have a3' := a3.extBut x1 a0
    exact wpAny_bind (wpAny_builtinsFor a3' e1 e2 (x1 _ _ e4 e5) e6 e7 e8 (wpAny_bind (wpAny_nsGet a3' (wpAny_bind (wpAny_pure (wpAny_newObj_type (k c' .none g n x1 x2 x3 x4 x5.2) (by size_fits)))))))
  · rw [if_neg (by simp)]
    refine wpAny_bind (wpAny_newTextTuple ?_)
    have kp := a5.keeps fun b o e => Heap.get?_push_of_some { cls := .type "tuple", data := .seq (((q :: r).mergeSort fun a b => a.1.cps.toList ≤ b.1.cps.toList).map (Value.ref ·.2)).toArray } e
    refine wpAny_bind (wpAny_functionCodeX a4 (kp.code (Heap.get?_push_of_some _ a6) a7) (kp.tab (Heap.get?_push_of_some _ a6)) a8 fun c' g n x1 x2 x3 _ x4 x5 _ => ?_)
    have a3' := (a3.push _).extBut x1 a0
    have x1' : Heap.ExtBut TP s.heap g := fun b o hb e => x1 b o hb (Heap.get?_push_of_some _ e)
    have x2' : s.heap.objs.size ≤ c' := Nat.le_trans (by rw [Heap.size_push]; omega) x2
    exact wpAny_bind (wpAny_builtinsFor a3' e1 e2 (x1' _ _ e4 e5) e6 e7 e8 (wpAny_bind (wpAny_nsGet a3' (wpAny_bind (wpAny_pure (wpAny_newObj_type (k c' _ g n x1' x2' x3 x4 x5.2) (by size_fits)))))))
end
section
variable {X : Cx} {pins : List (Addr × Obj)} {σ : L2.St} {H : Hp} {s : Shared}
theorem inv_lam {F : LF} {o : Obj} {t' : Nat} {pm ctv : Value} (I : Inv X pins σ H s) (ho : o = { cls := .type "function", data := .func (F.fd pm ctv) }) : Inv X pins σ (upd H s.heap.objs.size (LamO s.heap.objs.size F)) { s with heap := s.heap.push o, toks := t' } := by
  subst ho
  refine I.laid (fun b u e => Heap.get?_push_of_some _ e) (Nat.le_refl _) ?_
  have g : (s.heap.push ({ cls := .type "function", data := .func (F.fd pm ctv) } : Obj)).get? s.heap.objs.size = some { cls := .type "function", data := .func (F.fd pm ctv) } := Heap.get?_push_size _ rfl
  exact ⟨⟨_, _, pm, ctv, g⟩, ⟨_, g⟩, fun _ _ ⟨od, sl, p, t, z⟩ st => ⟨od, sl, p, t, st _ z⟩⟩
/-- a lambda is made; its object and its code object are known from then on -/
theorem lam_tail {T : List NTab} {nm : Nat → Nat → Str} {c P : Addr} {params : Arguments} {body : Expr} {scope : Scope} {pos : Pos} {dv : Value} {E Q : Value → Shared → Prop} (I : Inv X pins σ H s) (TB : TabB X.base X.mg c P) (hcode : X.env.code = .ref c) (hm : (P, nm) ∈ T)
    (hn : nm pos.line pos.col = X.env.qual ++ "<lambda>") (hu : ∀ p ∈ T, p.1 = P → p.2 = nm) (hT : TabsN T H) (hfree : ∀ y ∈ scope.names, y.2 = .free → ∃ c, X.env.cells.lookup y.1 = some c)
    (fin : ∀ (f c' : Addr) (H1 : Hp) (s' : Shared), Inv X pins σ H1 s' → ExtN H H1 → (∀ b, H1 b = Option.none → H b = Option.none) → TabsN T H1 → H f = none → H1 f = some (LamO f ⟨X.env.qual ++ "<lambda>", params, body, scope, cloFrom X.env.cells scope.names [], c', dv⟩) → H1 c' = some (CodeO c' (X.env.qual ++ "<lambda>")) → Q (.ref f) s') :
    wpAny (model X.prog X.w) X.A (makeTail "<lambda>" (X.env.qual ++ "<lambda>") params (.expr body) scope X.env dv .none none pos pos.line) Q E s := by
  obtain ⟨ps, hP, ht, ha⟩ := (show TabN H P nm from hT _ hm)
  have bP : s.heap.BuiltinsAt X.mg P := TB.bm.keeps I.bk
  have gP : s.heap.get? P = some { cls := .none, data := .fields ps } := I.hok P _ hP
  cases hc : codeAmong pos ps.toList with
  | some cv =>
    obtain ⟨c', ecv, hco⟩ := ha pos cv hc
    subst ecv; rw [hn] at hco
    refine tail_hit (mg := X.mg) (closure_ok hfree) I.ok.glob (I.mod.glob.keeps I.bk) hcode (TB.code.keeps I.bk) gP ht hc bP fun ctv h' tk hx hsz => ?_
    have I1 : Inv X pins σ H { s with heap := h', toks := tk } := I.kept hx
    have nF : H h'.objs.size = none := I1.hok.fresh (Nat.le_refl _)
    have I2 := inv_lam (F := ⟨X.env.qual ++ "<lambda>", params, body, scope, cloFrom X.env.cells scope.names [], c', dv⟩) (t' := tk) (pm := (X.mg "__name__").getD .none) (ctv := ctv) I1 rfl
    have k1 : ∀ b o, H b = some o → upd H h'.objs.size (LamO h'.objs.size ⟨X.env.qual ++ "<lambda>", params, body, scope, cloFrom X.env.cells scope.names [], c', dv⟩) b = some o := fun b o e => (upd_ne (ne_of_none e nF)).trans e
    exact fin h'.objs.size c' _ _ I2 (fun b o e _ => k1 b o e) (fun b e => upd_none e) (hT.ext k1) nF upd_same (k1 _ _ hco)
  | none =>
    refine tail_new (mg := X.mg) (closure_ok hfree) I.ok.glob (I.mod.glob.keeps I.bk) hcode (TB.code.keeps I.bk) gP ht hc TB.gP bP fun c' ctv h' tk hx hge hlt hrec htb => ?_
    obtain ⟨c2, oc, vs, t, e2, hoc, hd, hv⟩ := hrec
    cases e2
    have nC : H c' = none := I.hok.fresh hge
    have I1 := inv_table (t' := tk) (more := #[rawInt pos.line, rawInt pos.col, .ref c']) (h' := h') I hP (fun b o hb e => hx b o hb e) htb hge ⟨oc, vs, t, hoc, hd, hv⟩
    have kE : ExtN H (upd (upd H P (.tbl (ps ++ #[rawInt pos.line, rawInt pos.col, .ref c']))) c' (CodeO c' (X.env.qual ++ "<lambda>"))) := fun b o e n => by
      rw [upd_ne (ne_of_none e nC), upd_ne (fun z => n ps (Option.some.inj (e.symm.trans (by rw [z]; exact hP))))]; exact e
    have aL : (ps ++ #[rawInt pos.line, rawInt pos.col, .ref c']).toList = ps.toList ++ [rawInt pos.line, rawInt pos.col, .ref c'] := by simp
    have T1 : TabsN T (upd (upd H P (.tbl (ps ++ #[rawInt pos.line, rawInt pos.col, .ref c']))) c' (CodeO c' (X.env.qual ++ "<lambda>"))) := fun p hp => by
      by_cases hb : p.1 = P
      · rw [hu p hp hb, hb]
        refine ⟨_, (upd_ne (ne_of_none hP nC)).trans upd_same, by rw [aL]; exact PySem.TriplesOk_snoc _ _ _ _ ht, fun p' cv hcv => ?_⟩
        rw [aL] at hcv
        rcases among_app2 _ ht hcv with z | ⟨z, z1, z2⟩
        · obtain ⟨c0, g1, g2⟩ := ha p' cv z; exact ⟨c0, g1, kE _ _ g2 codeO_ne⟩
        · exact ⟨c', z, by rw [← z1, ← z2, hn]; exact upd_same⟩
      · obtain ⟨ps', a1, a2, a3⟩ := hT p hp
        refine ⟨ps', by rw [upd_ne (ne_of_none a1 nC), upd_ne hb]; exact a1, a2, fun p' cv hcv => ?_⟩
        obtain ⟨c0, g1, g2⟩ := a3 p' cv hcv; exact ⟨c0, g1, kE _ _ g2 codeO_ne⟩
    have nF := I1.hok.fresh (Nat.le_refl _)
    have I2 := inv_lam (F := ⟨X.env.qual ++ "<lambda>", params, body, scope, cloFrom X.env.cells scope.names [], c', dv⟩) (t' := tk) (pm := (X.mg "__name__").getD .none) (ctv := ctv) I1 rfl
    exact fin h'.objs.size c' _ _ I2 (fun b o e n => (upd_ne (ne_of_none (kE b o e n) nF)).trans (kE b o e n)) (fun b e => upd_none (upd_none (upd_none e))) (T1.ext fun b o e => (upd_ne (ne_of_none e nF)).trans e)
      (I.hok.fresh (Nat.le_trans hge (Nat.le_of_lt hlt))) upd_same ((upd_ne (Nat.ne_of_lt hlt)).trans upd_same)
theorem lam_new {T : List NTab} {nm : Nat → Nat → Str} {c P : Addr} {params : Arguments} {body : Expr} {scope : Scope} {pos : Pos} {E Q : Value → Shared → Prop} (I : Inv X pins σ H s) (TB : TabB X.base X.mg c P) (hcode : X.env.code = .ref c) (hm : (P, nm) ∈ T)
    (hn : nm pos.line pos.col = X.env.qual ++ "<lambda>") (hu : ∀ p ∈ T, p.1 = P → p.2 = nm) (hT : TabsN T H) (hdef : defaultsOf params X.env = ([], [])) (hfree : ∀ y ∈ scope.names, y.2 = .free → ∃ c, X.env.cells.lookup y.1 = some c)
    (fin : ∀ (f c' : Addr) (H1 : Hp) (s' : Shared), Inv X pins σ H1 s' → ExtN H H1 → (∀ b, H1 b = Option.none → H b = Option.none) → TabsN T H1 → H f = none → H1 f = some (LamO f ⟨X.env.qual ++ "<lambda>", params, body, scope, cloFrom X.env.cells scope.names [], c', .none⟩) → H1 c' = some (CodeO c' (X.env.qual ++ "<lambda>")) → Q (.ref f) s') :
    wpAny (model X.prog X.w) X.A (eval (.Lambda params body scope pos) X.env) Q E s := by
  refine PySem.W.kla_eval hdef ?_
  rw [makeFunction_eq]
  simp only [List.zip_nil_right, List.filterMap_nil, List.isEmpty_nil, if_true, pure_bind]
  exact lam_tail I TB hcode hm hn hu hT hfree fin
end
/-- the reading of a lambda: a new function, its code known -/
def tLamE (T : List NTab) (mk : Addr → LF) : TE := fun σ H Q => TabsN T H ∧ ∀ (f c' : Addr) (H1 : Hp), ExtN H H1 → (∀ b, H1 b = Option.none → H b = Option.none) → TabsN T H1 → H f = none → H1 f = some (LamO f (mk c')) → H1 c' = some (CodeO c' (mk c').qual) → Q (.ref f) H1
theorem pe_lamE {X : Cx} {T : List NTab} {nm : Nat → Nat → Str} {c P : Addr} {params : Arguments} {body : Expr} {scope : Scope} {pos : Pos} (TB : TabB X.base X.mg c P) (hcode : X.env.code = .ref c) (hm : (P, nm) ∈ T) (hn : nm pos.line pos.col = X.env.qual ++ "<lambda>") (hu : ∀ p ∈ T, p.1 = P → p.2 = nm) (hdef : defaultsOf params X.env = ([], []))
    (hfree : ∀ y ∈ scope.names, y.2 = .free → X.env.scope.names.lookup y.1 = some .cell ∨ X.env.scope.names.lookup y.1 = some .free) : PE X (.Lambda params body scope pos) (tLamE T fun c' => ⟨X.env.qual ++ "<lambda>", params, body, scope, cloFrom X.env.cells scope.names [], c', .none⟩) := by
  refine ⟨fun pins s σ H Q I ⟨hT, h⟩ => ?_⟩
  exact lam_new I TB hcode hm hn hu hT hdef (fun y hy e => (hfree y hy e).elim (fun z => I.ok.has _ (.inl z)) fun z => I.ok.has _ (.inr z)) fun f c' H1 s' I1 e1 e2 e3 e4 e5 e6 => ⟨.ref f, H1, I1, rfl, h f c' H1 e1 e2 e3 e4 e5 e6⟩
/-! ### what may be called: a promise that goes with an address -/
/-- called in any state that has all of S, the function at f keeps the promise sp -/
def Cal (P : Program) (w : World) (K : PySem.W.Frag) (mg : Str → Option Value) (base : Heap) (CX : CXT) (k : Nat) (f : Addr) (sp : Sp) (S : Hp) : Prop :=
  (∃ F, S f = some (LamO f F)) ∧ ∀ (A : Around) (outer : List Env) (s : Shared) (H : Hp) (us : List Value) (vs : List V) (Q : VK) (E : XK), Ex S H → Room k A → Env0 P w K mg base A outer s H → Vals vs us → sp vs H Q E →
    codeAny (model P w) A (.call (.ref f) ⟨us, []⟩) (CR CX outer P w H s Q E) s
theorem Cal.mono {P : Program} {w : World} {K : PySem.W.Frag} {mg : Str → Option Value} {base : Heap} {CX : CXT} {k : Nat} {f : Addr} {sp : Sp} {S S' : Hp} (h : Cal P w K mg base CX k f sp S) (e : Ex S S') : Cal P w K mg base CX k f sp S' :=
  ⟨let ⟨F, z⟩ := h.1; ⟨F, e _ _ z⟩, fun A outer s H us vs Q E e2 => h.2 A outer s H us vs Q E (e.trans e2)⟩
def tCal (P : Program) (w : World) (K : PySem.W.Frag) (mg : Str → Option Value) (base : Heap) (CX : CXT) (k i : Nat) (E : XK) (t : TA) : TE := fun σ H Q => ∃ f sp S, σ[i]? = some (some (.ref f)) ∧ Cal P w K mg base CX k f sp S ∧ Ex S H ∧ t σ H fun vs H1 => Ex S H1 ∧ sp vs H1 Q E
section
variable {X : Cx} {CX : CXT} {i j k : Nat} {x : Str} {E : XK} {t : TA} {e : Expr} {es : List Expr} {p pos : Pos}
theorem lam_fnAt {pins : List (Addr × Obj)} {σ : L2.St} {H S : Hp} {s : Shared} {f : Addr} {sp : Sp} (I : Inv X pins σ H s) (C : Cal X.prog X.w X.K X.mg X.base CX k f sp S) (e : Ex S H) : PySem.W.FnAt f s.heap := by
  obtain ⟨F, z⟩ := C.1
  obtain ⟨od, sl, pm, ctv, ho⟩ := lamO_at I.hok (e _ _ z)
  exact ⟨_, od, _, sl, ho⟩
theorem run_cal {pins : List (Addr × Obj)} {σ : L2.St} {H S : Hp} {s : Shared} {f : Addr} {sp : Sp} {us : List Value} {vs : List V} {Q : VK} (I : Inv X pins σ H s) (C : Cal X.prog X.w X.K X.mg X.base CX k f sp S) (hr : Room k X.A) (hx : Passes CX X E) (eS : Ex S H) (r : Vals vs us) (q : sp vs H Q E) :
    wpAny (model X.prog X.w) X.A (call (.ref f) us) (EP X pins σ Q) X.xe s := by
  refine wpAny_call (codeAny_mono (C.2 X.A X.stack s H us vs Q E eS hr I.env0 r q) fun r s' hq => ?_)
  match r, hq with
  | .error e, hq => exact hx pins σ H s e s' I hq
  | .ok (.ret u), hq => exact I.after hq
  | .ok .next, hq => exact False.elim hq
  | .ok .brk, hq => exact False.elim hq
  | .ok .cont, hq => exact False.elim hq
theorem pe_cal (hr : Room j X.A) (hk : k ≤ j) (hx : Passes CX X E) (hN : X.N[i]? = some x) (hv : Vis X.env.scope x) (ha : PA X (e :: es) t) (hd : (x == ("__debug__" : Str)) = false := by decide) (hcd : (x == ("__classdict__" : Str)) = false := by decide)
    (he : starEach (e :: es) X.env = (false, eval e X.env) :: starEach es X.env := by rfl) (hpl : (backTo pos (starEach es X.env)).any (·.1) = false := by rfl) : PE X (.Call (.Name x p) (e :: es) [] pos) (tCal X.prog X.w X.K X.mg X.base CX k i E t) := by
  refine ⟨fun pins s σ H Q I ⟨f, sp, S, hs, C, eS, ht⟩ => ?_⟩
  refine wpAny_Call_Name_kw (thn ((pe_var (pos := p) hN hv hd hcd).run pins s σ H (fun v H1 => v = .ref f ∧ H1 = H) I ⟨.ref f, hs, rfl, rfl⟩) fun u s1 ⟨v, H1, I1, r1, ev, eH⟩ => ?_)
  subst ev eH
  obtain rfl : u = Value.ref f := r1
  exact PySem.W.callWith_F (first := []) (lam_fnAt I1 C eS) (thn (ha.run pos pins s1 σ H1 _ I1 ht) fun us s2 ⟨vs, H2, I2, r, e2, q⟩ => ⟨lam_fnAt I2 C e2, run_cal I2 C (hr.mono hk) hx e2 r q⟩) he hpl
theorem pe_cal0 (hr : Room j X.A) (hk : k ≤ j) (hx : Passes CX X E) (hN : X.N[i]? = some x) (hv : Vis X.env.scope x) (hd : (x == ("__debug__" : Str)) = false := by decide) (hcd : (x == ("__classdict__" : Str)) = false := by decide) :
    PE X (.Call (.Name x p) [] [] pos) (tCal X.prog X.w X.K X.mg X.base CX k i E tNil) := by
  refine ⟨fun pins s σ H Q I ⟨f, sp, S, hs, C, eS, e2, q⟩ => ?_⟩
  refine wpAny_Call_Name_kw (thn ((pe_var (pos := p) hN hv hd hcd).run pins s σ H (fun v H1 => v = .ref f ∧ H1 = H) I ⟨.ref f, hs, rfl, rfl⟩) fun u s1 ⟨v, H1, I1, r1, ev, eH⟩ => ?_)
  subst ev eH
  obtain rfl : u = Value.ref f := r1
  exact PySem.W.callWith_F0 (first := []) (lam_fnAt I1 C eS) (run_cal I1 C (hr.mono hk) hx e2 .nil q)
theorem pe_calE (P : Program) (w : World) (K : PySem.W.Frag) (mg : Str → Option Value) (base : Heap) (h1 : X.prog = P) (h2 : X.w = w) (h3 : X.K = K) (h4 : X.mg = mg) (h5 : X.base = base) (hr : Room j X.A) (hk : k ≤ j) (hx : Passes CX X E) (hN : X.N[i]? = some x) (hv : Vis X.env.scope x) (ha : PA X (e :: es) t)
    (hd : (x == ("__debug__" : Str)) = false := by decide) (hcd : (x == ("__classdict__" : Str)) = false := by decide) (he : starEach (e :: es) X.env = (false, eval e X.env) :: starEach es X.env := by rfl) (hpl : (backTo pos (starEach es X.env)).any (·.1) = false := by rfl) :
    PE X (.Call (.Name x p) (e :: es) [] pos) (tCal P w K mg base CX k i E t) := by
  subst h1 h2 h3 h4 h5
  exact pe_cal hr hk hx hN hv ha hd hcd he hpl
theorem pe_cal0E (P : Program) (w : World) (K : PySem.W.Frag) (mg : Str → Option Value) (base : Heap) (h1 : X.prog = P) (h2 : X.w = w) (h3 : X.K = K) (h4 : X.mg = mg) (h5 : X.base = base) (hr : Room j X.A) (hk : k ≤ j) (hx : Passes CX X E) (hN : X.N[i]? = some x) (hv : Vis X.env.scope x)
    (hd : (x == ("__debug__" : Str)) = false := by decide) (hcd : (x == ("__classdict__" : Str)) = false := by decide) : PE X (.Call (.Name x p) [] [] pos) (tCal P w K mg base CX k i E tNil) := by
  subst h1 h2 h3 h4 h5
  exact pe_cal0 hr hk hx hN hv hd hcd
end
end Sw
namespace Sw
open PySem PySem.Spec PyProof.Rows L2 Evl LamX NdefX
/-! ### cells that are known for a while: frozen for a callee -/
abbrev okT : HO := .ext fun _ => True
/-- of H, what N names is as H0 has it -/
noncomputable def mixN (N : Addr → Prop) (H0 H : Hp) : Hp := fun b => @ite _ (N b) (Classical.propDecidable _) (H0 b) (H b)
theorem mix_in {N : Addr → Prop} {H0 H : Hp} {b : Addr} (h : N b) : mixN N H0 H b = H0 b := by unfold mixN; rw [if_pos h]
theorem mix_ni {N : Addr → Prop} {H0 H : Hp} {b : Addr} (h : ¬ N b) : mixN N H0 H b = H b := by unfold mixN; rw [if_neg h]
structure Frz (X : Cx) (σ : L2.St) (H Hz : Hp) (N : Addr → Prop) : Prop where
  iff : ∀ b, N b ↔ ∃ y, X.env.cells.lookup y = some b
  out : ∀ b, ¬ N b → Hz b = H b
  off : ∀ b, N b → H b = Option.none
  inn : ∀ b, N b → ∃ o v, Hz b = some (.frz o okT) ∧ o.data = .cell v
  val : ∀ (i : Nat) (y : Str) (v : V) (c : Addr), X.N[i]? = some y → σ[i]? = some (some v) → (X.env.scope.names.lookup y = some .cell ∨ X.env.scope.names.lookup y = some .free) → X.env.cells.lookup y = some c → ∃ o u, Hz c = some (.frz o okT) ∧ o.data = .cell (some u) ∧ L2.RelV v u
  inj : ∀ x y c, X.env.cells.lookup x = some c → X.env.cells.lookup y = some c → x = y
  has : ∀ y, (X.env.scope.names.lookup y = some .cell ∨ X.env.scope.names.lookup y = some .free) → ∃ c, X.env.cells.lookup y = some c
theorem okT_ok {P : Program} {w : World} {H : Hp} {h : Heap} {a : Addr} {o : Obj} (e : h.get? a = some o) : ObjOk P w H h a (.frz o okT) := ⟨e, trivial, ⟨o, e⟩, fun _ _ _ _ => trivial⟩
/-- what is frozen, and how it comes back -/
theorem Frz.ex_ {X : Cx} {σ : L2.St} {H Hz : Hp} {N : Addr → Prop} (z : Frz X σ H Hz N) : Ex H Hz := fun b o e => by
  rw [z.out b (fun n => by rw [z.off b n] at e; cases e)]; exact e
theorem frz_env {X : Cx} {pins : List (Addr × Obj)} {σ : L2.St} {H : Hp} {s : Shared} (I : Inv X pins σ H s) (hfn : ∀ y, X.fn y = true) : ∃ Hz N, Frz X σ H Hz N ∧ Env0 X.prog X.w X.K X.mg X.base X.A X.stack s Hz ∧
    ∀ (Q : VK) (u : Value) (s' : Shared), CE X.stack X.prog X.w Hz s (fun v H2 => Q v (wn H2 N)) u s' → CE X.stack X.prog X.w H s Q u s' := by
  have cellOf : ∀ b, (∃ y, X.env.cells.lookup y = some b) → ∃ o v, s.heap.get? b = some o ∧ o.data = .cell v := fun b ⟨y, e⟩ => let ⟨v, o, h1, h2⟩ := I.cell y b e; ⟨o, v, h1, h2⟩
  let fz : Hp := fun b => (s.heap.get? b).map fun o => .frz o okT
  refine ⟨mixN (fun b => ∃ y, X.env.cells.lookup y = some b) fz H, fun b => ∃ y, X.env.cells.lookup y = some b, ?_, ?_, ?_⟩
  · refine ⟨fun b => Iff.rfl, fun b n => mix_ni n, fun b ⟨y, e⟩ => I.freeC y b e, fun b n => ?_, fun i y v c h1 h2 h3 h4 => ?_, I.ok.inj, I.ok.has⟩
    · obtain ⟨o, v, e1, e2⟩ := cellOf b n
      exact ⟨o, v, by rw [mix_in n]; show (s.heap.get? b).map _ = _; rw [e1]; rfl, e2⟩
    · obtain ⟨m, hn, hl⟩ := I.loc
      obtain ⟨u, r, l⟩ := hl i y v h1 h2 (h3.elim (fun z => .inr (.inl z)) fun z => .inr (.inr z))
      rcases l with ⟨z, _⟩ | ⟨_, a, ha, o, ho, hd⟩
      · have z' : X.env.scope.names.lookup y = some .local := z
        rcases h3 with k | k <;> rw [k] at z' <;> cases z'
      · rw [h4] at ha; cases ha
        exact ⟨o, u, by rw [mix_in ⟨y, h4⟩]; show (s.heap.get? c).map _ = _; rw [ho]; rfl, hd, r⟩
  · have e0 := I.env0
    have big : ∀ b, (∃ y, X.env.cells.lookup y = some b) → X.s_0.heap.objs.size ≤ b := fun b ⟨y, e⟩ => I.ok.cab y b (hfn y) e
    refine ⟨e0.frames, e0.mod, fun b o e => ⟨(e0.bs b o e).1, ?_⟩, e0.bsz, e0.funs, fun b hb => ?_, fun a o e => ?_, e0.bare⟩
    · rw [mix_ni fun n => absurd (Nat.lt_of_lt_of_le (Heap.lt_size (I.ok.bs b o e).1) (big b n)) (Nat.lt_irrefl _)]
      exact (e0.bs b o e).2
    · rw [mix_ni]
      · exact e0.frf b hb
      · intro n
        rcases List.mem_cons.mp (I.stkSub b hb) with z | z
        · obtain ⟨y, e⟩ := n
          exact I.cne y b e z
        · obtain ⟨_, o, ho, _⟩ := I.ok.funs.mem z
          exact absurd (Nat.lt_of_lt_of_le (Heap.lt_size ho) (big b n)) (Nat.lt_irrefl _)
    · by_cases n : ∃ y, X.env.cells.lookup y = some a
      · rw [mix_in n] at e
        obtain ⟨o', v, e1, e2⟩ := cellOf a n
        have e3 : (s.heap.get? a).map (fun o => HO.frz o okT) = some o := e
        rw [e1] at e3; cases e3
        exact okT_ok e1
      · rw [mix_ni n] at e
        refine (e0.hok a o e).stay (fun b u _ q => q) (fun b q => ?_) fun b xs q => ?_
        · rw [mix_ni fun ⟨y, z⟩ => by rw [I.freeC y b z] at q; cases q]; exact q
        · rw [mix_ni fun ⟨y, z⟩ => by rw [I.freeC y b z] at q; cases q]; exact q
  · rintro Q u s' ⟨v, H2, os, bare, un, hok, r, q⟩
    have fr : ∀ b, (∃ y, X.env.cells.lookup y = some b) → ∀ o, s.heap.get? b = some o → H2 b = some (.frz o okT) ∧ s'.heap.get? b = some o := fun b n o e => by
      have z := un.frzs b o okT (by rw [mix_in n]; show (s.heap.get? b).map _ = _; rw [e]; rfl)
      exact ⟨z, (hok b _ z).1⟩
    have mz : ∀ {b : Addr}, (¬ ∃ y, X.env.cells.lookup y = some b) → H b = Option.none → mixN (fun b => ∃ y, X.env.cells.lookup y = some b) fz H b = Option.none := fun n e => (mix_ni n).trans e
    refine ⟨v, wn H2 _, os, bare, ⟨fun b o e n h1 h2 => ?_, fun b o e n h1 h2 => ?_, fun b o e n h2 => ?_, un.there, fun b xs e => ?_, fun b o u e => ?_, fun b ps e => ?_⟩, fun a o e => ?_, r, q⟩
    · by_cases c : ∃ y, X.env.cells.lookup y = some b
      · exact (fr b c o e).2
      · exact un.keep b o e (mz c n) h1 h2
    · by_cases c : ∃ y, X.env.cells.lookup y = some b
      · exact ⟨o.slots, (fr b c o e).2⟩
      · exact un.slot b o e (mz c n) h1 h2
    · by_cases c : ∃ y, X.env.cells.lookup y = some b
      · exact wn_in c
      · rw [wn_ni c]; exact un.free b o e (mz c n) h2
    · have c : ¬ ∃ y, X.env.cells.lookup y = some b := fun ⟨y, z⟩ => by rw [I.freeC y b z] at e; cases e
      rw [wn_ni c]; exact un.tups b xs ((mix_ni c).trans e)
    · have c : ¬ ∃ y, X.env.cells.lookup y = some b := fun ⟨y, z⟩ => by rw [I.freeC y b z] at e; cases e
      rw [wn_ni c]; exact un.frzs b o u ((mix_ni c).trans e)
    · have c : ¬ ∃ y, X.env.cells.lookup y = some b := fun ⟨y, z⟩ => by rw [I.freeC y b z] at e; cases e
      obtain ⟨more, z⟩ := un.tbls b ps ((mix_ni c).trans e)
      exact ⟨more, by rw [wn_ni c]; exact z⟩
    · obtain ⟨c, e'⟩ := wn_some e
      have nc : ∀ {b : Addr} {o : HO}, H2 b = some o → (∀ ob, o ≠ .frz ob okT) → ¬ ∃ y, X.env.cells.lookup y = some b := fun {b o} q ne n => by
        obtain ⟨ob, _, e1, _⟩ := cellOf b n
        rw [(fr b n ob e1).1] at q
        exact ne ob (Option.some.inj q).symm
      refine (hok a o e').stay (fun b u _ q => q) (fun b q => ?_) fun b xs q => ?_
      · rw [wn_ni (nc q fun _ z => nomatch z)]; exact q
      · rw [wn_ni (nc q fun _ z => nomatch z)]; exact q
/-- f(..) of a def that lets nothing out, the caller's cells frozen while it runs -/
def tCallZ (X : Cx) (sp : Sp) (dvs : List V) (t : TA) : TE := fun σ H Q => t σ H fun vs H1 => ∀ Hz N, Frz X σ H1 Hz N → sp (vs ++ dvs) Hz (fun v H2 => Q v (wn H2 N)) E0
theorem pe_callZ {X : Cx} {k : Nat} {f : Addr} {fd : FuncData} {ps : List Str} {sp : Sp} {dvs : List V} {ds : List Value} {x : Str} {p pos : Pos} {e : Expr} {es : List Expr} {t : TA} (F : FnOk X.prog X.w X.K X.mg X.base L2.CX0 k f fd ps sp) (hr : Room k X.A) (hg : Gl X x) (hm : X.mg x = some (.ref f)) (hk : PySem.W.keepIn X.K (.ref f) = true)
    (hb : L2.Binds X.K fd ps ds) (hd : Vals dvs ds) (ha : PA X (e :: es) t) (hfn : ∀ y, X.fn y = true := by intro _; rfl) (hdb : (x == ("__debug__" : Str)) = false := by decide) (he : starEach (e :: es) X.env = (false, eval e X.env) :: starEach es X.env := by rfl) (hpl : (backTo pos (starEach es X.env)).any (·.1) = false := by rfl) :
    PE X (.Call (.Name x p) (e :: es) [] pos) (tCallZ X sp dvs t) := by
  refine ⟨fun pins s σ H Q I h => ?_⟩
  refine wpAny_Call_Name_kw (ld_glob I hg hm (PySem.W.callWith_K (h₀ := X.base) I.ok.mod.kin hk (thn (ha.run pos pins s σ H _ I h) fun us s1 ⟨vs, H1, I1, r, q⟩ => ⟨I1.kIn, ?_⟩) he hpl) hdb)
  obtain ⟨Hz, N, fz, e0, back⟩ := frz_env I1 hfn
  have q := q Hz N fz
  have r2 : Vals (vs ++ dvs) (us ++ ds) := r.append hd
  have hl : (us ++ ds).length = ps.length := by rw [← r2.length]; exact F.len _ _ _ _ q
  refine wpAny_call (codeAny_mono (F.run X.A X.stack s1 Hz ⟨us, []⟩ (us ++ ds) (vs ++ dvs) _ _ hr e0 (hb s1 us I1.kIn hl) r2 q) fun r s' hq => ?_)
  match r, hq with
  | .error e, hq => exact (show False from hq).elim
  | .ok (.ret u), hq => exact I1.after (back Q u s' hq)
  | .ok .next, hq => exact False.elim hq
  | .ok .brk, hq => exact False.elim hq
  | .ok .cont, hq => exact False.elim hq
end Sw
namespace Sw
open PySem PySem.Spec PyProof.Rows L2 Evl LamX NdefX
/-! ### a lambda's promise, from its body -/
structure CloK (S : Hp) (f : Addr) (F : LF) (fr : List Str) (ws : List (Option V)) : Prop where
  fn : S f = some (LamO f F)
  co : S F.c = some (CodeO F.c F.qual)
  len : ws.length = fr.length
  all : ∀ y c, F.cl.lookup y = some c → ∃ o v, S c = some (.frz o okT) ∧ o.data = .cell v
  inj : ∀ x y c, F.cl.lookup x = some c → F.cl.lookup y = some c → x = y
  has : ∀ (i : Nat) (y : Str), fr[i]? = some y → ∃ c, F.cl.lookup y = some c ∧ ∀ v, ws[i]? = some (some v) → ∃ o u, S c = some (.frz o okT) ∧ o.data = .cell (some u) ∧ L2.RelV v u
theorem CloK.mono {S S' : Hp} {f : Addr} {F : LF} {fr : List Str} {ws : List (Option V)} (e : Ex S S') (C : CloK S f F fr ws) : CloK S' f F fr ws :=
  ⟨e _ _ C.fn, e _ _ C.co, C.len, fun y c h => let ⟨o, v, a, b⟩ := C.all y c h; ⟨o, v, e _ _ a, b⟩, C.inj, fun i y h => let ⟨c, a, b⟩ := C.has i y h; ⟨c, a, fun v hv => let ⟨o, u, p, q⟩ := b v hv; ⟨o, u, e _ _ p, q⟩⟩⟩
/-- the cells that a lambda captured -/
def clN (F : LF) : Addr → Prop := fun b => ∃ y, F.cl.lookup y = some b
theorem clo_frz {X : Cx} {σ : L2.St} {H Hz : Hp} {N : Addr → Prop} {f : Addr} {F : LF} {scope : Scope} {fr : List Str} {js : List Nat} (z : Frz X σ H Hz N) (hf : H f = some (LamO f F)) (hc : H F.c = some (CodeO F.c F.qual)) (hcl : F.cl = cloFrom X.env.cells scope.names [])
    (hfree : ∀ y ∈ scope.names, y.2 = .free → X.env.scope.names.lookup y.1 = some .cell ∨ X.env.scope.names.lookup y.1 = some .free) (hfr : ∀ y ∈ fr, (y, NameKind.free) ∈ scope.names) (hjs : js.map (fun j => X.N[j]?) = fr.map some) : CloK Hz f F fr (js.map (slotAt σ)) := by
  have hF : ∀ y ∈ scope.names, y.2 = .free → ∃ c, X.env.cells.lookup y.1 = some c := fun y hy e => z.has y.1 (hfree y hy e)
  have sub : ∀ y c, F.cl.lookup y = some c → X.env.cells.lookup y = some c := fun y c e => clo_cm hF (by rw [hcl] at e; exact e)
  have kn : ∀ {a : Addr} {o : HO}, H a = some o → Hz a = some o := fun {a o} e => z.ex_ a o e
  have ln : js.length = fr.length := by
    have q := congrArg List.length hjs
    rw [List.length_map, List.length_map] at q; exact q
  refine ⟨kn hf, kn hc, by rw [List.length_map]; exact ln, fun y c e => z.inn c ((z.iff c).mpr ⟨y, sub y c e⟩), fun x y c a b => z.inj x y c (sub x c a) (sub y c b), fun i y e => ?_⟩
  have k := hfree (y, .free) (hfr y (List.mem_of_getElem? e)) rfl
  obtain ⟨c, hc0⟩ := z.has y k
  refine ⟨c, by rw [hcl]; exact clo_has hF (hfr y (List.mem_of_getElem? e)) hc0, fun v ev => ?_⟩
  have e2 : (js.map fun j => X.N[j]?)[i]? = some (some y) := by rw [hjs, List.getElem?_map, e]; rfl
  rw [List.getElem?_map] at e2 ev
  cases ej : js[i]? with
  | none => rw [ej] at e2; cases e2
  | some j =>
    rw [ej] at e2 ev
    exact z.val j y v c (Option.some.inj (show some (X.N[j]?) = some (some y) from e2)) (slotAt_some (Option.some.inj (show some (slotAt σ j) = some (some v) from ev))) k hc0
/-- a state in which the cells of Nf are frozen, and the same state without them -/
structure Thaw (H : Hp) (Nf : Addr → Prop) : Prop where
  all : ∀ b, Nf b → ∃ o v, H b = some (.frz o okT) ∧ o.data = .cell v
theorem Thaw.off {H : Hp} {Nf : Addr → Prop} (t : Thaw H Nf) {b : Addr} {o : HO} (e : H b = some o) (n : ∀ ob, o ≠ .frz ob okT) : ¬ Nf b := fun z => let ⟨ob, _, q, _⟩ := t.all b z; n ob (Option.some.inj (e.symm.trans q))
theorem Thaw.offN {H : Hp} {Nf : Addr → Prop} (t : Thaw H Nf) {b : Addr} (e : H b = none) : ¬ Nf b := fun z => let ⟨_, _, q, _⟩ := t.all b z; by rw [e] at q; cases q
section
variable {P : Program} {w : World} {K : PySem.W.Frag} {mg : Str → Option Value} {base : Heap} {A : Around} {outer : List Env} {s : Shared} {H : Hp} {Nf : Addr → Prop}
theorem Thaw.env (t : Thaw H Nf) (e0 : Env0 P w K mg base A outer s H) : Env0 P w K mg base A outer s (wn H Nf) := by
  have off : ∀ {b : Addr}, H b = none → wn H Nf b = none := fun {b} e => (wn_ni (t.offN e)).trans e
  refine ⟨e0.frames, e0.mod, fun b o e => ⟨(e0.bs b o e).1, off (e0.bs b o e).2⟩, e0.bsz, e0.funs, fun b hb => off (e0.frf b hb), fun a o e => ?_, e0.bare⟩
  obtain ⟨_, e'⟩ := wn_some e
  refine (e0.hok a o e').stay (fun b u _ q => q) (fun b q => ?_) fun b xs q => ?_
  · rw [wn_ni (t.off q fun _ z => nomatch z)]; exact q
  · rw [wn_ni (t.off q fun _ z => nomatch z)]; exact q
/-- the heap behind: the frozen cells as they were -/
theorem Thaw.hok {B : Heap} {H3 : Hp} (t : Thaw H Nf) (hf : ∀ b o, H b = some (.frz o okT) → Nf b → B.get? b = some o ∧ H3 b = none) (hok : HOk P w H3 B) : HOk P w (mixN Nf H H3) B := fun a o e => by
  by_cases c : Nf a
  · rw [mix_in c] at e
    obtain ⟨ob, _, q, _⟩ := t.all a c
    rw [q] at e; cases e
    exact okT_ok (hf a ob q c).1
  · rw [mix_ni c] at e
    have nn : ∀ {b : Addr} {o : HO}, H3 b = some o → ¬ Nf b := fun {b o} q z => by
      obtain ⟨ob, _, q2, _⟩ := t.all b z
      rw [(hf b ob q2 z).2] at q; cases q
    refine (hok a o e).stay (fun b u _ q => q) (fun b q => ?_) fun b xs q => ?_
    · rw [mix_ni (nn q)]; exact q
    · rw [mix_ni (nn q)]; exact q
theorem Thaw.back (t : Thaw H Nf) (e0 : Env0 P w K mg base A outer s H) {Q : VK} {u : Value} {s' : Shared} (h : CE outer P w (wn H Nf) s (fun v H3 => (∀ b, Nf b → H3 b = none) → Q v (mixN Nf H H3)) u s') : CE outer P w H s Q u s' := by
  obtain ⟨v, H3, os, bare, un, hok, r, q⟩ := h
  have off : ∀ {b : Addr}, H b = none → wn H Nf b = none := fun {b} e => (wn_ni (t.offN e)).trans e
  have at_ : ∀ b o, H b = some (.frz o okT) → Nf b → s.heap.get? b = some o := fun b o e _ => (e0.hok b _ e).1
  have nfr : ∀ b, Nf b → b ∉ frs outer := fun b z hb => t.offN (e0.frf b hb) z
  have hf : ∀ b o, H b = some (.frz o okT) → Nf b → s'.heap.get? b = some o ∧ H3 b = none := fun b o e z =>
    ⟨un.keep b o (at_ b o e z) (wn_in z) (nfr b z) (by simp), un.free b o (at_ b o e z) (wn_in z) (by simp)⟩
  refine ⟨v, mixN Nf H H3, os, bare, ⟨fun b o e n h1 h2 => un.keep b o e (off n) h1 h2, fun b o e n h1 h2 => un.slot b o e (off n) h1 h2, fun b o e n h2 => (mix_ni (t.offN n)).trans (un.free b o e (off n) h2), un.there, fun b xs e => ?_, fun b o u e => ?_, fun b ps e => ?_⟩, t.hok hf hok, r, q fun b z => let ⟨ob, _, e, _⟩ := t.all b z; (hf b ob e z).2⟩
  · have c := t.off e fun _ z => nomatch z
    rw [mix_ni c]; exact un.tups b xs ((wn_ni c).trans e)
  · by_cases c : Nf b
    · exact (mix_in c).trans e
    · rw [mix_ni c]; exact un.frzs b o u ((wn_ni c).trans e)
  · have c := t.off e fun _ z => nomatch z
    obtain ⟨more, z⟩ := un.tbls b ps ((wn_ni c).trans e)
    exact ⟨more, by rw [mix_ni c]; exact z⟩
/-- what is let out is let out from the frozen state too -/
def Backs (CX : CXT) (P : Program) (w : World) (K : PySem.W.Frag) (mg : Str → Option Value) (base : Heap) : Prop := ∀ (A : Around) (outer : List Env) (s : Shared) (H : Hp) (Nf : Addr → Prop) (E : XK) (e : Value) (s' : Shared), Thaw H Nf → Env0 P w K mg base A outer s H →
  CX outer (wn H Nf) s (fun c d H3 => (∀ b, Nf b → H3 b = none) → E c d (mixN Nf H H3)) e s' → CX outer H s E e s'
theorem backs0 : Backs L2.CX0 P w K mg base := fun _ _ _ _ _ _ _ _ _ _ z => z
theorem backsX : Backs (L2.CX P w) P w K mg base := fun A outer s H Nf E e s' t e0 ⟨a, B, H3, cls, d, e1, fl, hok, un, na, os, bare, hE⟩ => by
  have off : ∀ {b : Addr}, H b = none → wn H Nf b = none := fun {b} e => (wn_ni (t.offN e)).trans e
  have at_ : ∀ b o, H b = some (.frz o okT) → Nf b → s.heap.get? b = some o := fun b o e _ => (e0.hok b _ e).1
  have nfr : ∀ b, Nf b → b ∉ frs outer := fun b z hb => t.offN (e0.frf b hb) z
  have hf : ∀ b o, H b = some (.frz o okT) → Nf b → B.get? b = some o ∧ H3 b = none := fun b o e z =>
    ⟨un.keep b o (at_ b o e z) (wn_in z) (nfr b z), un.free b o (at_ b o e z) (wn_in z)⟩
  have nA : ¬ Nf a := fun z => by
    obtain ⟨ob, _, q, _⟩ := t.all a z
    have z2 := (hf a ob q z).1
    rw [fl.2.1] at z2; cases z2
  refine ⟨a, B, mixN Nf H H3, cls, d, e1, fl, t.hok hf hok, ⟨fun b o e n h1 => un.keep b o e (off n) h1, un.slot, fun b o e n => (mix_ni (t.offN n)).trans (un.free b o e (off n)), un.there, fun b xs e => ?_, fun b o u e => ?_, fun b ps e => ?_⟩, (mix_ni nA).trans na, os, bare, hE fun b z => let ⟨ob, _, q, _⟩ := t.all b z; (hf b ob q z).2⟩
  · have c := t.off e fun _ z => nomatch z
    rw [mix_ni c]; exact un.tups b xs ((wn_ni c).trans e)
  · by_cases c : Nf b
    · exact (mix_in c).trans e
    · rw [mix_ni c]; exact un.frzs b o u ((wn_ni c).trans e)
  · have c := t.off e fun _ z => nomatch z
    obtain ⟨more, z⟩ := un.tbls b ps ((wn_ni c).trans e)
    exact ⟨more, by rw [mix_ni c]; exact z⟩
end
theorem lam_cal {CX : CXT} {P : Program} {w : World} {K : PySem.W.Frag} {mg : Str → Option Value} {base : Heap} {N ps fr : List Str} {F : LF} {f : Addr} {k : Nat} {sp : Sp} {S S0 : Hp} {ws : List (Option V)} (C : CloK S f F fr ws) (Sc : NScope N ps fr F.scope) (bk : Backs CX P w K mg base)
    (hb : ∀ (pm ctv : Value) (us : List Value), us.length = ps.length → bindArgs (F.fd pm ctv) ⟨us, []⟩ = pure (ps.zip us)) (len : ∀ vs H Q E, sp vs H Q E → vs.length = ps.length) (e0 : Ex S0 S) (n0 : ∀ y c, F.cl.lookup y = some c → S0 c = none)
    (hbody : ∀ (A : Around) (outer : List Env) (s : Shared) (H : Hp) (vs : List V) (Q : VK) (E : XK), Room k (A.deeper (envF F.nf f s.heap.objs.size)) → Ex S H → Ex S0 (wn H (clN F)) → sp vs H Q E →
      ∃ t, PE (ncx CX P w K mg base N F.nf f A outer s (wn H (clN F)) (fun c d H3 => (∀ b, clN F b → H3 b = none) → E c d (mixN (clN F) H H3))) F.body t ∧ t (startF N vs ws) (wn H (clN F)) (fun v H3 => (∀ b, clN F b → H3 b = none) → Q v (mixN (clN F) H H3))) :
    Cal P w K mg base CX (k + 1) f sp S := by
  refine ⟨⟨F, C.fn⟩, fun A outer s H us vs Q E eS hr e1 r hsp => ?_⟩
  have C' := C.mono eS
  have t : Thaw H (clN F) := ⟨fun b ⟨y, z⟩ => C'.all y b z⟩
  have hl := len _ _ _ _ hsp
  have lim : s.heap.NoLimit := e1.mod.nolimit.keeps fun b o e => (e1.bs b o e).1
  obtain ⟨od, sl, pm, ctv, ho⟩ := lamO_at e1.hok C'.fn
  refine PySem.W.kla_callFunE hr.depth ho rfl Sc.co Sc.gen rfl (codeO_at e1.hok C'.co) ?_
  rw [hb pm ctv us (by rw [← r.length]; exact hl)]
  refine wpAny_pure (wpAny_newFunctionEnv Sc.nocell (fun ⟨n, _⟩ hy => Sc.par n (List.of_mem_zip hy).1) (fun h₁ hns hsb => ⟨lim.fresh _ hsb, ?_⟩) Sc.kind)
  show codeAny _ _ (.expr F.body (envF F.nf f s.heap.objs.size)) _ _
  have kp : ∀ b o, s.heap.get? b = some o → h₁.get? b = some o := fun b o e => hsb.extBut b o (Nat.ne_of_lt (Heap.lt_size e)) (Heap.get?_push_of_some _ e)
  have x0 : Ex S0 (wn H (clN F)) := fun b o e => by
    rw [wn_ni fun ⟨y, z⟩ => by rw [n0 y b z] at e; cases e]
    exact eS _ _ (e0 _ _ e)
  obtain ⟨tb, ht, hq⟩ := hbody A outer s H vs Q E (hr.deeper _) eS x0 hsp
  have cells : CellsAt F.cl fr ws s.heap (wn H (clN F)) := ⟨C'.len, fun y c e => ⟨wn_in ⟨y, e⟩, let ⟨o, v, q1, q2⟩ := C'.all y c e; ⟨v, o, (e1.hok c _ q1).1, q2⟩⟩, C'.inj, fun i y e => let ⟨c, q1, q2⟩ := C'.has i y e; ⟨c, q1, fun v hv => let ⟨o, u, q3, q4, q5⟩ := q2 v hv; ⟨u, q5, o, (e1.hok c _ q3).1, q4⟩⟩⟩
  have I : Inv (ncx CX P w K mg base N F.nf f A outer s (wn H (clN F)) (fun c d H3 => (∀ b, clN F b → H3 b = none) → E c d (mixN (clN F) H H3))) [] (startF N vs ws) (wn H (clN F)) { s with heap := h₁, toks := s.toks + (ps.zip us).length } := inv_startN (F := F.nf) Sc hr.hd (t.env e1) hl r cells hns kp
  refine PySem.W.kla_codeExpr (wpAny_mono (ht.run [] _ _ _ _ I hq) (fun v s' hv => ?_) fun e s' he => wpAny_mono he (fun _ s'' z => bk A outer s H _ E e s'' t e1 z) fun e' s'' z => bk A outer s H _ E e' s'' t e1 z)
  obtain ⟨v', H', J, rv, q⟩ := hv
  exact t.back e1 ⟨v', H', J.os, J.bare, J.base, J.hok, rv, q⟩
end Sw
namespace Sw
open PySem PySem.Spec PyProof.Rows L2 Evl LamX NdefX
/-- a def whose code object stands at c -/
structure FunC (K : PySem.W.Frag) (x qual : Str) (st : Stmt) (f : Addr) (fd : FuncData) (c : Addr) : Prop where
  ex : ∃ (oc : Value) (od : Option Addr) (kV doc pm : Value) (an : Option Addr) (ct : Value) (osl : Array (Option Value)), fd = PySem.W.fnOf x qual (L2.defArgs st) (L2.defBody st) (L2.defScope st) .none kV doc pm an (.ref c) ct ∧ K.lookup f = some ⟨oc, od, .func fd, osl⟩ ∧ PySem.W.codeIn K (.ref c) qual = true
theorem FunC.ok {P : Program} {w : World} {K : PySem.W.Frag} {mg : Str → Option Value} {base : Heap} {x qual : Str} {st : Stmt} {f : Addr} {fd : FuncData} {c : Addr} {N ps : List Str} {k : Nat} {sp : Sp} (F : FunC K x qual st f fd c) (S : FnScope N ps (L2.defScope st)) (len : ∀ vs H Q E, sp vs H Q E → vs.length = ps.length)
    (hbody : ∀ (A : Around) (outer : List Env) (s : Shared) (H : Hp) (vs : List V) (Q : VK) (E : XK), Room k (A.deeper (envOfC qual (L2.defScope st) s.heap.objs.size f (.ref c))) → sp vs H Q E →
      ∃ t, PSs (cxOf L2.CX0 P w K mg base N qual (L2.defScope st) f (.ref c) A outer s H E).nox (L2.defBody st) t ∧ t { nx := fun _ H' => Q .non H', rt := Q } (L2.start N vs) H) : FnOk P w K mg base L2.CX0 (k + 1) f fd ps sp := by
  obtain ⟨oc, od, kV, doc, pm, an, ct, osl, rfl, lk, hcd⟩ := F.ex
  exact fn_of lk hcd S len fun A outer s H vs Q E hr hsp => let ⟨t, h, q⟩ := hbody A outer s H vs Q E hr hsp; ⟨t, h.nox, q⟩
theorem funC_mk {K : PySem.W.Frag} {x qual : Str} {st : Stmt} {f c : Addr} {oc : Value} {od an : Option Addr} {osl : Array (Option Value)} {kV doc pm ct : Value} (l : K.lookup f = some ⟨oc, od, .func (PySem.W.fnOf x qual (L2.defArgs st) (L2.defBody st) (L2.defScope st) .none kV doc pm an (.ref c) ct), osl⟩)
    (h : PySem.W.codeIn K (.ref c) qual = true) : FunC K x qual st f (PySem.W.fnOf x qual (L2.defArgs st) (L2.defBody st) (L2.defScope st) .none kV doc pm an (.ref c) ct) c := ⟨oc, od, kV, doc, pm, an, ct, osl, rfl, l, h⟩
/-! ### a heap without its tables -/
def nt (H : Hp) : Hp := fun b => match H b with
  | some (.tbl _) => none
  | o => o
theorem nt_of {H : Hp} {b : Addr} {o : HO} (e : H b = some o) (n : ∀ ps, o ≠ .tbl ps) : nt H b = some o := by
  unfold nt
  rw [e]
  cases o <;> first | rfl | exact absurd rfl (n _)
theorem nt_some {H : Hp} {b : Addr} {o : HO} (e : nt H b = some o) : H b = some o ∧ ∀ ps, o ≠ .tbl ps := by
  unfold nt at e
  cases q : H b with
  | none => rw [q] at e; cases e
  | some u =>
    rw [q] at e
    cases u <;> first | (cases e; exact ⟨rfl, fun _ z => nomatch z⟩) | cases e
theorem nt_ex {H : Hp} : Ex (nt H) H := fun _ _ e => (nt_some e).1
theorem extN_nt {H H1 : Hp} (e : ExtN H H1) : Ex (nt H) (nt H1) := fun b o h => nt_of (e b o (nt_some h).1 (nt_some h).2) (nt_some h).2
theorem extN_of {H H1 : Hp} (e : Ex H H1) : ExtN H H1 := fun b o h _ => e b o h
theorem extN_wn {H H1 : Hp} {N : Addr → Prop} (e : ExtN H H1) : ExtN (wn H N) (wn H1 N) := fun b o h n => by
  obtain ⟨q1, q2⟩ := wn_some h
  rw [wn_ni q1]; exact e b o q2 n
theorem nt_t {K : PySem.W.Frag} {H : Hp} {a : Addr} {xs : List V} (h : SqT K H a xs) : SqT K (nt H) a xs := by
  rcases h with (h | ⟨u, h⟩) | h
  · exact .inl (.inl (nt_of h fun _ z => nomatch z))
  · exact .inl (.inr ⟨u, nt_of h fun _ z => nomatch z⟩)
  · exact .inr h
theorem nt_l {K : PySem.W.Frag} {H : Hp} {a : Addr} {xs : List V} (h : SqL K H a xs) : SqL K (nt H) a xs := by
  rcases h with (h | ⟨u, h⟩) | h
  · exact .inl (.inl (nt_of h fun _ z => nomatch z))
  · exact .inl (.inr ⟨u, nt_of h fun _ z => nomatch z⟩)
  · exact .inr h
theorem tabsN_ext {T : List NTab} {H H' : Hp} (t : TabsN T H) (e : Ex H H') : TabsN T H' := t.ext e
end Sw
namespace Sw
open PySem PySem.Spec PyProof.Rows L2 Evl LamX NdefX
/-! ### lambdas with one parameter that has a number as its default -/
theorem evalD {M : Model} {A : Around} {E Q : Value → Shared → Prop} {s : Shared} {params : Arguments} {body e : Expr} {scope : Scope} {pos : Pos} {env : Env} (hdef : defaultsOf params env = ([eval e env], []))
    (h : wpAny M A (eval e env) (fun v s1 => wpAny M A (makeFunction "<lambda>" (env.qual ++ "<lambda>") params (.expr body) scope env [v] [] [] pos pos.line) Q E s1) E s) : wpAny M A (eval (.Lambda params body scope pos) env) Q E s := by
  rw [arm_eval_Lambda, hdef]
  show wpAny M A (do let dv ← evalAll [eval e env]; let kdv ← holding dv (evalAllOpt []); makeFunction "<lambda>" (env.qual ++ "<lambda>") params (.expr body) scope env dv kdv [] pos pos.line) Q E s
  refine wpAny_bind ?_
  show wpAny M A (eval e env >>= fun v => holding [v] (evalAll []) >>= fun r => pure (v :: r)) _ E s
  refine wpAny_bind (wpAny_mono h (fun v s1 h1 => ?_) fun _ _ z => z)
  exact wpAny_bind (wpAny_holding (wpAny_pure (wpAny_pure (wpAny_bind (wpAny_holding (wpAny_pure h1))))))
section
variable {X : Cx} {pins : List (Addr × Obj)} {σ : L2.St} {H : Hp} {s : Shared}
theorem lam_newD {T : List NTab} {nm : Nat → Nat → Str} {c P : Addr} {params : Arguments} {body e : Expr} {scope : Scope} {pos : Pos} {i : Int} {E Q : Value → Shared → Prop} (I : Inv X pins σ H s) (TB : TabB X.base X.mg c P) (hcode : X.env.code = .ref c) (hm : (P, nm) ∈ T)
    (hn : nm pos.line pos.col = X.env.qual ++ "<lambda>") (hu : ∀ p ∈ T, p.1 = P → p.2 = nm) (hT : TabsN T H) (he : PE X e (tC (.int i))) (hE : E = X.xe) (hdef : defaultsOf params X.env = ([eval e X.env], [])) (hfree : ∀ y ∈ scope.names, y.2 = .free → ∃ c, X.env.cells.lookup y.1 = some c)
    (fin : ∀ (f c' t : Addr) (H1 : Hp) (s' : Shared), Inv X pins σ H1 s' → ExtN H H1 → (∀ b, H1 b = Option.none → H b = Option.none) → TabsN T H1 → H f = none → H1 f = some (LamO f ⟨X.env.qual ++ "<lambda>", params, body, scope, cloFrom X.env.cells scope.names [], c', .ref t⟩) → H1 c' = some (CodeO c' (X.env.qual ++ "<lambda>")) → H1 t = some (.tup [.int i]) → Q (.ref f) s') :
    wpAny (model X.prog X.w) X.A (eval (.Lambda params body scope pos) X.env) Q E s := by
  subst hE
  refine evalD hdef (thn (he.run pins s σ H (fun v H1 => v = .int i ∧ H1 = H) I ⟨rfl, rfl⟩) fun u s1 ⟨v, H1, I1, r, ev, eH⟩ => ?_)
  subst ev eH
  obtain ⟨tk, rfl⟩ := (show ∃ t, u = Value.int i t from r)
  rw [makeFunction_eq]
  simp only [List.zip_nil_right, List.filterMap_nil, List.isEmpty_nil, List.isEmpty_cons, Bool.false_eq_true, if_false, if_true, pure_bind]
  refine wpAny_bind (wpAny_newTextTuple ?_)
  have nT : H1 s1.heap.objs.size = none := I1.hok.fresh (Nat.le_refl _)
  have I2 := I1.laid (h' := s1.heap.push ({ cls := .type "tuple", data := .seq #[Value.int i tk] } : Obj)) (o := .tup [.int i]) (t' := s1.toks) (fun b u e => Heap.get?_push_of_some _ e) (Nat.le_refl _) ⟨by show 1 ≤ sizeLine; decide, [Value.int i tk], .cons ⟨tk, rfl⟩ .nil, ⟨_, Heap.get?_push_size _ rfl, rfl, _, rfl⟩⟩
  exact lam_tail (dv := .ref s1.heap.objs.size) I2 TB hcode hm hn hu (hT.ext fun b o e => (upd_ne (ne_of_none e nT)).trans e) hfree fun f c' H3 s' I3 e1 e2 e3 e4 e5 e6 =>
    fin f c' s1.heap.objs.size H3 s' I3 (fun b o hb n => e1 b o ((upd_ne (ne_of_none hb nT)).trans hb) n) (fun b z => upd_none (e2 b z)) e3 (upd_none e4) e5 e6 (e1 _ _ upd_same fun _ z => nomatch z)
end
/-- the reading of such a lambda -/
def tLamD (T : List NTab) (mk : Addr → Addr → LF) (i : Int) : TE := fun σ H Q => TabsN T H ∧ ∀ (f c' t : Addr) (H1 : Hp), ExtN H H1 → (∀ b, H1 b = Option.none → H b = Option.none) → TabsN T H1 → H f = none → H1 f = some (LamO f (mk c' t)) → H1 c' = some (CodeO c' (mk c' t).qual) → H1 t = some (.tup [.int i]) → Q (.ref f) H1
theorem pe_lamD {X : Cx} {T : List NTab} {nm : Nat → Nat → Str} {c P : Addr} {params : Arguments} {body e : Expr} {scope : Scope} {pos : Pos} {i : Int} (TB : TabB X.base X.mg c P) (hcode : X.env.code = .ref c) (hm : (P, nm) ∈ T) (hn : nm pos.line pos.col = X.env.qual ++ "<lambda>") (hu : ∀ p ∈ T, p.1 = P → p.2 = nm) (he : PE X e (tC (.int i)))
    (hdef : defaultsOf params X.env = ([eval e X.env], [])) (hfree : ∀ y ∈ scope.names, y.2 = .free → X.env.scope.names.lookup y.1 = some .cell ∨ X.env.scope.names.lookup y.1 = some .free) :
    PE X (.Lambda params body scope pos) (tLamD T (fun c' t => ⟨X.env.qual ++ "<lambda>", params, body, scope, cloFrom X.env.cells scope.names [], c', .ref t⟩) i) := by
  refine ⟨fun pins s σ H Q I ⟨hT, h⟩ => ?_⟩
  exact lam_newD I TB hcode hm hn hu hT he rfl hdef (fun y hy e => (hfree y hy e).elim (fun z => I.ok.has _ (.inl z)) fun z => I.ok.has _ (.inr z)) fun f c' t H1 s' I1 e1 e2 e3 e4 e5 e6 e7 => ⟨.ref f, H1, I1, rfl, h f c' t H1 e1 e2 e3 e4 e5 e6 e7⟩
theorem lam_calD {CX : CXT} {P : Program} {w : World} {K : PySem.W.Frag} {mg : Str → Option Value} {base : Heap} {N fr : List Str} {p : Str} {F : LF} {f t : Addr} {i : Int} {k : Nat} {sp : Sp} {S S0 : Hp} {ws : List (Option V)} (C : CloK S f F fr ws) (ht : S t = some (.tup [.int i])) (Sc : NScope N [p] fr F.scope) (bk : Backs CX P w K mg base)
    (hb : ∀ (pm ctv u : Value) (s : Shared) (o : Obj) (n : Nat), s.heap.get? t = some o → o.data = .seq #[u] n → BindsTo s (F.fd pm ctv) ⟨[], []⟩ [(p, u)]) (len : ∀ vs H Q E, sp vs H Q E → vs = []) (e0 : Ex S0 S) (n0 : ∀ y c, F.cl.lookup y = some c → S0 c = none)
    (hbody : ∀ (A : Around) (outer : List Env) (s : Shared) (H : Hp) (Q : VK) (E : XK), Room k (A.deeper (envF F.nf f s.heap.objs.size)) → Ex S H → Ex S0 (wn H (clN F)) → sp [] H Q E →
      ∃ t, PE (ncx CX P w K mg base N F.nf f A outer s (wn H (clN F)) (fun c d H3 => (∀ b, clN F b → H3 b = none) → E c d (mixN (clN F) H H3))) F.body t ∧ t (startF N [.int i] ws) (wn H (clN F)) (fun v H3 => (∀ b, clN F b → H3 b = none) → Q v (mixN (clN F) H H3))) :
    Cal P w K mg base CX (k + 1) f sp S := by
  refine ⟨⟨F, C.fn⟩, fun A outer s H us vs Q E eS hr e1 r hsp => ?_⟩
  obtain rfl := len _ _ _ _ hsp
  cases r
  have C' := C.mono eS
  have th : Thaw H (clN F) := ⟨fun b ⟨y, z⟩ => C'.all y b z⟩
  have lim : s.heap.NoLimit := e1.mod.nolimit.keeps fun b o e => (e1.bs b o e).1
  obtain ⟨od, sl, pm, ctv, ho⟩ := lamO_at e1.hok C'.fn
  obtain ⟨_, its, ri, o, ho2, hc2, n, hd2⟩ := (show ObjOk P w H s.heap t (.tup [.int i]) from e1.hok t _ (eS _ _ ht))
  cases ri with | cons ru rn =>
  cases rn
  rename_i u
  refine PySem.W.kla_callFunE hr.depth ho rfl Sc.co Sc.gen rfl (codeO_at e1.hok C'.co) (hb pm ctv u s o n ho2 hd2 _ _ _ _ ?_)
  refine wpAny_newFunctionEnv Sc.nocell (fun ⟨n, _⟩ hy => Sc.par n (by have z := List.mem_singleton.mp hy; rw [(Prod.mk.inj z).1]; exact List.mem_singleton.mpr rfl)) (fun h₁ hns hsb => ⟨lim.fresh _ hsb, ?_⟩) Sc.kind
  show codeAny _ _ (.expr F.body (envF F.nf f s.heap.objs.size)) _ _
  have kp : ∀ b o, s.heap.get? b = some o → h₁.get? b = some o := fun b o e => hsb.extBut b o (Nat.ne_of_lt (Heap.lt_size e)) (Heap.get?_push_of_some _ e)
  have x0 : Ex S0 (wn H (clN F)) := fun b o e => by
    rw [wn_ni fun ⟨y, z⟩ => by rw [n0 y b z] at e; cases e]
    exact eS _ _ (e0 _ _ e)
  obtain ⟨tb, ht, hq⟩ := hbody A outer s H Q E (hr.deeper _) eS x0 hsp
  have cells : CellsAt F.cl fr ws s.heap (wn H (clN F)) := ⟨C'.len, fun y c e => ⟨wn_in ⟨y, e⟩, let ⟨o, v, q1, q2⟩ := C'.all y c e; ⟨v, o, (e1.hok c _ q1).1, q2⟩⟩, C'.inj, fun i y e => let ⟨c, q1, q2⟩ := C'.has i y e; ⟨c, q1, fun v hv => let ⟨o, u, q3, q4, q5⟩ := q2 v hv; ⟨u, q5, o, (e1.hok c _ q3).1, q4⟩⟩⟩
  have I : Inv (ncx CX P w K mg base N F.nf f A outer s (wn H (clN F)) (fun c d H3 => (∀ b, clN F b → H3 b = none) → E c d (mixN (clN F) H H3))) [] (startF N [.int i] ws) (wn H (clN F)) { s with heap := h₁, toks := s.toks + ([p].zip [u]).length } := inv_startN (F := F.nf) Sc hr.hd (th.env e1) rfl (.cons ru .nil) cells hns kp
  refine PySem.W.kla_codeExpr (wpAny_mono (ht.run [] _ _ _ _ I hq) (fun v s' hv => ?_) fun e s' he => wpAny_mono he (fun _ s'' z => bk A outer s H _ E e s'' th e1 z) fun e' s'' z => bk A outer s H _ E e' s'' th e1 z)
  obtain ⟨v', H', J, rv, q⟩ := hv
  exact th.back e1 ⟨v', H', J.os, J.bare, J.base, J.hok, rv, q⟩
end Sw
namespace Sw
open PySem PySem.Spec PyProof.Rows L2 Evl LamX NdefX
/-! ### a comprehension in which the def's cells are known: frozen from its start to its end -/
/-- what is not frozen any more -/
theorem un_thaw {fr ex : List Addr} {H Hz H5 : Hp} {g g' : Heap} {N : Addr → Prop} (u : Un fr ex Hz H5 g g') (out : ∀ b, ¬ N b → Hz b = H b) (off : ∀ b, N b → H b = none) (inn : ∀ b, N b → ∃ o, g.get? b = some o ∧ Hz b = some (.frz o okT)) (at_ : ∀ b o, H5 b = some (.frz o okT) → g'.get? b = some o) : Un fr ex H (wn H5 N) g g' := by
  have cell : ∀ {b : Addr} {o : Obj}, N b → g.get? b = some o → H5 b = some (.frz o okT) ∧ g'.get? b = some o := fun {b o} n e => by
    obtain ⟨o', e1, e2⟩ := inn b n
    rw [e] at e1; cases e1
    have z := u.frzs b o okT e2
    exact ⟨z, at_ b o z⟩
  have zn : ∀ {b : Addr}, ¬ N b → H b = none → Hz b = none := fun n e => (out _ n).trans e
  refine ⟨?_, ?_, ?_, u.there, ?_, ?_, ?_⟩
  · intro b o e n h1 h2
    by_cases c : N b
    · exact (cell c e).2
    · exact u.keep b o e (zn c n) h1 h2
  · intro b o e n h1 h2
    by_cases c : N b
    · exact ⟨o.slots, (cell c e).2⟩
    · exact u.slot b o e (zn c n) h1 h2
  · intro b o e n h2
    by_cases c : N b
    · exact wn_in c
    · exact (wn_ni c).trans (u.free b o e (zn c n) h2)
  · intro b xs e
    have c : ¬ N b := fun z => by rw [off b z] at e; cases e
    exact (wn_ni c).trans (u.tups b xs ((out b c).trans e))
  · intro b o v e
    have c : ¬ N b := fun z => by rw [off b z] at e; cases e
    exact (wn_ni c).trans (u.frzs b o v ((out b c).trans e))
  · intro b ps e
    have c : ¬ N b := fun z => by rw [off b z] at e; cases e
    obtain ⟨more, z⟩ := u.tbls b ps ((out b c).trans e)
    exact ⟨more, (wn_ni c).trans z⟩
theorem hok_thaw {P : Program} {w : World} {H5 : Hp} {g : Heap} {N : Addr → Prop} (k : HOk P w H5 g) (fz : ∀ b, N b → ∃ o, H5 b = some (.frz o okT)) : HOk P w (wn H5 N) g := fun a o e => by
  obtain ⟨c, e'⟩ := wn_some e
  have nc : ∀ {b : Addr} {u : HO}, H5 b = some u → (∀ ob, u ≠ .frz ob okT) → ¬ N b := fun {b u} q ne n => by
    obtain ⟨ob, e1⟩ := fz b n
    rw [e1] at q
    exact ne ob (Option.some.inj q).symm
  refine (k a o e').stay (fun _ _ _ q => q) (fun b q => ?_) fun b xs q => ?_
  · rw [wn_ni (nc q fun _ z => nomatch z)]; exact q
  · rw [wn_ni (nc q fun _ z => nomatch z)]; exact q
/-- a block's start with more known -/
theorem blk_frz {X : Cx} {t3 t4 : Shared} {H3 Hz : Hp} {scope : Scope} {ce : Env} {fp : List Addr} {σ' : L2.St} {N : Addr → Prop} (J : Inv (X.blk t3 H3 scope ce fp) [] σ' H3 t4) (kp : ∀ b u, t3.heap.get? b = some u → t4.heap.get? b = some u) (out : ∀ b, ¬ N b → Hz b = H3 b) (off : ∀ b, N b → H3 b = none)
    (inn : ∀ b, N b → ∃ o, t3.heap.get? b = some o ∧ Hz b = some (.frz o okT)) (nb : ∀ b, N b → X.base.get? b = none) (ns : ∀ b, N b → b ∉ frs X.stack) (nl : ∀ b, N b → b ≠ ce.locals) (nc : ∀ y b, ce.cells.lookup y = some b → ¬ N b) : Inv (X.blk t3 Hz scope ce fp) [] σ' Hz t4 := by
  have k := J.ok
  refine ⟨⟨k.mod, k.kind, k.glob, k.blt, k.above, k.inj, k.has, k.cab, k.hd, k.frames, k.stk, k.exf, fun b o e => ⟨(k.bs b o e).1, ?_⟩, k.bsz, k.noex, k.exfs, k.funs, fun b e => ?_⟩, J.os, J.bare, Un.kept kp, J.loc, J.cell, ?_, fun y c e => ?_, fun p hp => absurd (show p ∈ ([] : List (Addr × Obj)) ++ [] from hp) (by simp), ?_, J.len⟩
  · have n : ¬ N b := fun z => by have q := nb b z; rw [e] at q; cases q
    exact (out b n).trans (k.bs b o e).2
  · have n : ¬ N b := fun z => ns b z e
    exact (out b n).trans (k.frf b e)
  · have n : ¬ N ce.locals := fun z => nl _ z rfl
    exact (out _ n).trans J.free
  · exact (out c (nc y c e)).trans (J.freeC y c e)
  · intro a o e
    by_cases n : N a
    · obtain ⟨ob, e1, e2⟩ := inn a n
      rw [e2] at e; cases e
      exact okT_ok (kp _ _ e1)
    · rw [out a n] at e
      have t : ∀ {b : Addr} {u : HO}, H3 b = some u → Hz b = some u := fun {b u} q => (out b fun z => by rw [off b z] at q; cases q).trans q
      exact (J.hok a o e).stay (fun _ _ _ q => q) (fun b q => t q) fun b xs q => t q
/-- its reading -/
def tLcF (X : Cx) (wi : TI) (g : TG) (te : TE) (vs : List Nat) : TE := fun σ H Q => wi σ H fun J H1 => ∀ Hz N, Frz X σ H1 Hz N → ∀ D, Hz D = none → ∃ W : Nat → Nat → Hp → Prop, (∃ m, W 0 m (upd Hz D (.lst []))) ∧ ∀ i m H, W i m H →
  (J.stop i H ∧ Q (.ref D) (wn H N)) ∨ (J.go i H ∧ ∃ Nx : Hp → Prop, (∀ H', Nx H' → ∃ m', m' < m ∧ W (i + 1) m' H') ∧ ∀ x H', J.yld i H x H' → g x (wipe σ vs) H' fun σ2 H2 => wipe σ2 vs = wipe σ vs ∧
    te σ2 H2 fun y H4 => ∃ acc, H4 D = some (.lst acc) ∧ acc.length < sizeLine ∧ Nx (upd H4 D (.lst (acc ++ [y]))))
section
variable {X : Cx}
theorem lcF_core {pn : List (Addr × Obj)} {t : Shared} {σ : L2.St} {H : Hp} {Q : VK} {el tg itr : Expr} {sc : Scope} {own : List (Str × Nat)} {po po' : Pos} {wi : TI} {g : TG} {te : TE} {Qf : Value → Shared → Prop} (calm : X.calm = true) (hfn : ∀ y, X.fn y = true) (J : Inv X pn σ H t) (pi : PI X tg itr wi) (ok : BlkOk X.N X.env.scope sc own) (nodup : X.N.Nodup) (nf : ∀ y ∈ sc.names, y.2 ≠ .free)
    (pg : ∀ (t : Shared) (H : Hp) (C : Addr) (cl : List (Str × Addr)) (fp : List Addr), PG (X.blk t H sc (compEnvC sc cl C X.env) fp) tg g) (pe : ∀ (t : Shared) (H : Hp) (C : Addr) (cl : List (Str × Addr)) (fp : List Addr), PE (X.blk t H sc (compEnvC sc cl C X.env) fp) el te) (fo : ∀ x, foldedSetIterable itr X.env x = pure x)
    (rd : tLcF X wi g te (own.map (·.2)) σ H Q) (fin : ∀ D C t' m H', Inv X pn σ H' t' → Q (.ref D) H' → t'.heap.Ns C m → FpOk X pn H' C → compPost (model X.prog X.w) X.A X.xe none Qf (.ref D) C (.ok .next) t') :
    wpAny (model X.prog X.w) X.A (comprehension (.ListComp el [⟨tg, itr, [], 0⟩] sc po) sc X.env po' (newList []) false (eval itr X.env) none) Qf X.xe t := by
  refine wpAny_comprehension_free (use := none) rfl fo (closure_ok fun y hy e => absurd e (nf y hy)) ok.kind (fun y hy e => by rw [ok.uniq y hy, e]) (thn (pi.run pn t σ H _ J rd) fun xv t1 hx => thn hx fun iv t2 h2 => ?_)
  obtain ⟨it, fp, tn, Jt, H2, e, J2, T, st2, f2, q⟩ := h2
  subst e
  obtain ⟨Hz, N, fz, e0, _⟩ := frz_env J2 hfn
  refine wpAny_newObj_type (newEnv_comp ?_) (Nat.zero_le _)
  generalize hD : t2.heap.objs.size = D
  have Dn : Hz D = none := e0.hok.fresh (Nat.le_of_eq hD)
  have Dn2 : H2 D = none := J2.hok.fresh (Nat.le_of_eq hD)
  obtain ⟨W, ⟨m0, w0⟩, turn⟩ := q Hz N fz D Dn
  -- the cells: where they stand
  have cellAt : ∀ b, N b → ∃ o, t2.heap.get? b = some o ∧ Hz b = some (.frz o okT) := fun b n => by
    obtain ⟨o, v, e1, _⟩ := fz.inn b n
    exact ⟨o, (e0.hok b _ e1).1, e1⟩
  have nlt : ∀ b, N b → b < t2.heap.objs.size := fun b n => let ⟨o, e1, _⟩ := cellAt b n; Heap.lt_size e1
  have nge : ∀ b, N b → X.s_0.heap.objs.size ≤ b := fun b n => let ⟨y, e1⟩ := (fz.iff b).mp n; J2.ok.cab y b (hfn y) e1
  generalize ht3 : ({ t2 with heap := t2.heap.push { cls := .type "list", data := .seq ([] : List Value).toArray } } : Shared) = t3
  have hp3 : t3.heap = t2.heap.push { cls := .type "list", data := .seq ([] : List Value).toArray } := by rw [← ht3]
  have k23 : ∀ b u, t2.heap.get? b = some u → t3.heap.get? b = some u := fun b u e => by rw [hp3]; exact Heap.get?_push_of_some _ e
  have J3 : Inv X pn σ (upd H2 D (.lst [])) t3 := by
    rw [← ht3]
    refine J2.laid (t' := t2.toks) (fun b u e => Heap.get?_push_of_some _ e) (Nat.le_of_eq hD) ⟨Nat.zero_le _, [], 0, .nil, ?_⟩
    rw [← hD]; exact Heap.get?_push_size _ rfl
  have neD : ∀ b, b < t2.heap.objs.size → b ≠ D := fun b z => by rw [← hD]; exact Nat.ne_of_lt z
  have lt2 : ∀ b ∈ fp, b < t2.heap.objs.size := fun b hb => let ⟨o, e, _⟩ := T.obj _ _ st2 b hb; Heap.lt_size e
  have sz3 : t3.heap.objs.size = t2.heap.objs.size + 1 := by rw [hp3, Heap.size_push]
  have fp3 : ∀ b ∈ fp, FpOk X pn (upd H2 D (.lst [])) b ∧ b < t3.heap.objs.size := fun b hb => by
    have z := lt2 b hb
    exact ⟨⟨(upd_ne (neD b z)).trans (f2 b hb).1, (f2 b hb).2⟩, by rw [sz3]; exact Nat.lt_succ_of_lt z⟩
  have st3 : tn 0 t3.heap := T.keep _ _ _ st2 fun b _ u e => k23 b u e
  have J4 := block_start J3 ok nodup fp3
  generalize hcl : cellsFrom (t3.heap.objs.size + 1) sc.names (cloFrom X.env.cells sc.names []) = cls at J4 ⊢
  have k34 : ∀ b u, t3.heap.get? b = some u → (pushCells (t3.heap.push { cls := .type "dict", data := .dict #[] }) sc.names).get? b = some u := fun b u e => pushCells_keeps _ _ _ _ (Heap.get?_push_of_some _ e)
  have cnew : ∀ y c, (compEnvC sc cls t3.heap.objs.size X.env).cells.lookup y = some c → ¬ N c := fun y c e n => by
    have e : cls.lookup y = some c := e
    rw [← hcl, ← Heap.size_push t3.heap { cls := .type "dict", data := .dict #[] }] at e
    rcases cells_mem (PySem.mem_of_lookup e) with hm | ⟨_, z, _⟩
    · rcases cloFrom_mem hm with hm | ⟨z, _⟩
      · cases hm
      · exact nf _ z rfl
    · rw [Heap.size_push, sz3] at z
      exact absurd (Nat.lt_of_lt_of_le (nlt c n) (Nat.le_trans (Nat.le_trans (Nat.le_succ _) (Nat.le_succ _)) z)) (Nat.lt_irrefl _)
  have J5 := blk_frz (Hz := upd Hz D (.lst [])) (N := N) J4 k34 (fun b n => by
      by_cases z : b = D
      · rw [z, upd_same, upd_same]
      · rw [upd_ne z, upd_ne z]; exact fz.out b n) (fun b n => (upd_ne (neD b (nlt b n))).trans (fz.off b n))
    (fun b n => let ⟨o, a1, a2⟩ := cellAt b n; ⟨o, k23 _ _ a1, (upd_ne (neD b (nlt b n))).trans a2⟩)
    (fun b n => by
      cases z : X.base.get? b with
      | none => rfl
      | some u => exact absurd (Nat.lt_of_lt_of_le (Heap.lt_size z) (Nat.le_trans J2.ok.bsz (nge b n))) (Nat.lt_irrefl _))
    (fun b n z => by
      rcases List.mem_cons.mp (J2.stkSub b z) with z | z
      · obtain ⟨y, e1⟩ := (fz.iff b).mp n
        exact J2.cne y b e1 z
      · obtain ⟨_, o, ho, _⟩ := J2.ok.funs.mem z
        exact absurd (Nat.lt_of_lt_of_le (Heap.lt_size ho) (nge b n)) (Nat.lt_irrefl _))
    (fun b n z => by have q1 : b = t3.heap.objs.size := z; exact absurd q1 (Nat.ne_of_lt (by rw [sz3]; exact Nat.lt_succ_of_lt (nlt b n)))) cnew
  have nfz : ∀ b ∈ fp, (upd Hz D (.lst [])) b = none := fun b hb => by
    have z := lt2 b hb
    rw [upd_ne (neD b z), fz.out b fun n => by obtain ⟨y, e1⟩ := (fz.iff b).mp n; exact (f2 b hb).2.2.2.2.1 y b e1 rfl]
    exact (f2 b hb).1
  show codeAny _ _ (.compStart (.ListComp el [⟨tg, itr, [], 0⟩] sc po) 0 (.ref it) (.ref D) (compEnvC sc cls t3.heap.objs.size X.env)) (compPost (model X.prog X.w) X.A X.xe none Qf (.ref D) t3.heap.objs.size) { t3 with heap := pushCells (t3.heap.push { cls := .type "dict", data := .dict #[] }) sc.names }
  have pg' := pg t3 (upd Hz D (.lst [])) t3.heap.objs.size cls fp
  have pe' := pe t3 (upd Hz D (.lst [])) t3.heap.objs.size cls fp
  generalize hce : compEnvC sc cls t3.heap.objs.size X.env = ce at J5 pg' pe' ⊢
  have cL : ce.locals = t3.heap.objs.size := by subst hce; rfl
  generalize hz3 : upd Hz D (.lst []) = Hz3 at J5 pg' pe' w0 nfz
  have hz3N : ∀ b, ¬ N b → Hz3 b = upd H2 D (.lst []) b := fun b n => by
    rw [← hz3]
    by_cases z : b = D
    · rw [z, upd_same, upd_same]
    · rw [upd_ne z, upd_ne z]; exact fz.out b n
  have hz3I : ∀ b, N b → ∃ o, t3.heap.get? b = some o ∧ Hz3 b = some (.frz o okT) := fun b n => by
    obtain ⟨o, a1, a2⟩ := cellAt b n
    exact ⟨o, k23 _ _ a1, by rw [← hz3]; exact (upd_ne (neD b (nlt b n))).trans a2⟩
  generalize ht4 : ({ t3 with heap := pushCells (t3.heap.push { cls := .type "dict", data := .dict #[] }) sc.names } : Shared) = t4 at J5 ⊢
  have st4 : tn 0 t4.heap := T.keep _ _ _ st3 fun b _ u e => by rw [← ht4]; exact k34 b u e
  have stood : ∀ {σ' : L2.St} {H' : Hp} {t' : Shared}, Inv (X.blk t3 Hz3 sc ce fp) [] σ' H' t' → (∀ b ∈ fp, H' b = none) → ∀ b ∈ fp, FpOk (X.blk t3 Hz3 sc ce fp) [] H' b := fun {σ' H' t'} K n b hb =>
    ⟨n b hb, (K.ok.exf b hb).1, K.ok.exfs b hb, .inl hb, fun x c e => (K.ok.exf b hb).2 x c e, fun p hp => absurd (show p ∈ ([] : List (Addr × Obj)) ++ [] from hp) (by simp)⟩
  have loop : codeAny (model X.prog X.w) X.A (.compLoop (.ListComp el [⟨tg, itr, [], 0⟩] sc po) 0 (.ref it) (.ref D) ce) (compPost (model X.prog X.w) X.A X.xe none Qf (.ref D) t3.heap.objs.size) t4 := by
    refine compLoop_any (fun n t' => ∃ i H', Inv (X.blk t3 Hz3 sc ce fp) [] (wipe σ (own.map (·.2))) H' t' ∧ tn i t'.heap ∧ (∀ b ∈ fp, H' b = none) ∧ W i n H') ?_ m0 ⟨0, Hz3, J5, st4, nfz, w0⟩
    rintro n t5 ⟨i, H5, K5, st5, n5, w5⟩
    rcases turn i n H5 w5 with ⟨stop, qq⟩ | ⟨gg, Nx, hNx, step⟩
    · refine thnF (T.done (X.blk t3 Hz3 sc ce fp) rfl rfl rfl calm i [] t5 _ H5 (fun _ _ => False) K5 (stood K5 n5) st5 stop) fun r t6 ⟨hr, K6⟩ => ?_
      subst hr
      have bs := K6.base
      have J7 : Inv X pn σ (wn H5 N) t6 := J3.call' (ch := fp) K6.os (un_thaw bs hz3N (fun b n => (upd_ne (neD b (nlt b n))).trans (fz.off b n)) hz3I fun b o e => (K6.hok b _ e).1) (hok_thaw K6.hok fun b n => let ⟨o, _, a2⟩ := hz3I b n; ⟨o, bs.frzs b o okT a2⟩) K6.bare
        fun b hb => ⟨(fp3 b hb).1.2.2.2.1, (fp3 b hb).1.2.1, (fp3 b hb).1.2.2.2.2.1, (fp3 b hb).1.2.2.2.2.2⟩
      have nC : H5 t3.heap.objs.size = none := by have z : H5 ce.locals = none := K6.free; rw [cL] at z; exact z
      have nN : ¬ N t3.heap.objs.size := fun z => absurd (nlt _ z) (by rw [sz3]; exact Nat.not_lt_of_le (Nat.le_succ _))
      obtain ⟨mm, hn, _⟩ := K6.loc
      have hn : t6.heap.Ns ce.locals mm := hn
      rw [cL] at hn
      exact fin D t3.heap.objs.size t6 mm _ J7 qq hn (J3.fpOk (Nat.le_refl _) ((wn_ni nN).trans nC))
    · refine thnF (T.item (X.blk t3 Hz3 sc ce fp) rfl rfl rfl calm i [] t5 _ H5 (fun _ _ => False) K5 (stood K5 n5) st5 gg) fun r t6 ⟨u, hr, h6⟩ => ?_
      subst hr
      refine thnF h6 fun _ t7 ⟨x, H7, K7, r7, y7, st7, n7⟩ => ?_
      have K7' := K7.pinned (stood K7 n7) (T.obj _ _ st7)
      refine thnF (pg'.run _ t7 _ H7 x u _ K7' r7 (step x H7 y7)) fun _ t8 ⟨σ8, H8, K8, hw8, q8⟩ => ?_
      refine thnF ((pts_nil (X := X.blk t3 Hz3 sc ce fp)).run _ t8 σ8 H8 (fun b G => b = true ∧ G = H8) K8 ⟨rfl, rfl⟩) fun b t9 ⟨H9, K9, hb, eG⟩ => ?_
      subst hb eG
      simp only [if_true]
      refine thnF (pe'.run _ t9 σ8 H9 _ K9 q8) fun z t10 ⟨yv, H10, K10, r10, acc, hD10, hz10, nx⟩ => ?_
      refine app_ok (X := X.blk t3 Hz3 sc ce fp) K10 hD10 hz10 r10 fun t11 K11 => ?_
      obtain ⟨m', hm, w'⟩ := hNx _ nx
      have pin' : ∀ b ∈ fp, ∀ o, t7.heap.get? b = some o → t11.heap.get? b = some o ∧ (upd H10 D (.lst (acc ++ [yv]))) b = none := fun b hb o e =>
        let z := K11.pin (b, o) (List.mem_append_right _ (List.mem_append_right _ (mem_pinsAt hb e))); ⟨z.1, z.2.1⟩
      have hl : (wipe σ (own.map (·.2))).length = σ8.length := by rw [← hw8]; exact wipe_length _ _
      exact ⟨m', hm, i + 1, _, (K11.unpinned (pins := [])).weak hl (fun j v e => by rw [← hw8] at e; exact (wipe_some e).1), T.keep _ _ _ st7 fun b hb o e => (pin' b hb o e).1,
        fun b hb => let ⟨o, e, _⟩ := T.obj _ _ st7 b hb; (pin' b hb o e).2, w'⟩
  exact codeAny_compStart_list loop (T.self X.A 0 _ _ _ st4 loop)
theorem pe_lcF {el tg itr : Expr} {sc : Scope} {own : List (Str × Nat)} {po : Pos} {wi : TI} {g : TG} {te : TE} (calm : X.calm = true) (nodup : X.N.Nodup) (pi : PI X tg itr wi) (ok : BlkOk X.N X.env.scope sc own) (nf : ∀ y ∈ sc.names, y.2 ≠ .free)
    (pg : ∀ (t : Shared) (H : Hp) (C : Addr) (cl : List (Str × Addr)) (fp : List Addr), PG (X.blk t H sc (compEnvC sc cl C X.env) fp) tg g) (pe : ∀ (t : Shared) (H : Hp) (C : Addr) (cl : List (Str × Addr)) (fp : List Addr), PE (X.blk t H sc (compEnvC sc cl C X.env) fp) el te)
    (hfn : ∀ y, X.fn y = true := by intro _; rfl) (fo : ∀ x, foldedSetIterable itr X.env x = pure x := by intro _; rfl) : PE X (.ListComp el [⟨tg, itr, [], 0⟩] sc po) (tLcF X wi g te (own.map (·.2))) := by
  refine ⟨fun pn t σ H Q J rd => ?_⟩
  rw [eval_ListComp]
  refine lcF_core calm hfn J pi ok nodup nf pg pe fo rd fun D C t' m H' K q hn ⟨f0, f1, f2, f3, f4, f5⟩ => ⟨m, hn, fun h'' sb => ?_⟩
  exact ⟨.ref D, H', K.turned (t' := t'.toks) (fun b u hb e => (sb.2 b hb).trans e) f0 f1 f3 f4 f5, rfl, q⟩
end
end Sw
namespace Sw
open PySem PySem.Spec PyProof.Rows L2 Evl
/-! ### xs[::k], k written and positive -/
def stepV {α : Type} (xs : List α) (k : Int) : List α := (sliceRange (sliceBounds none none (some k) xs.length).1 (sliceBounds none none (some k) xs.length).2.1 (sliceBounds none none (some k) xs.length).2.2).filterMap (xs[·]?)
theorem vals_pick {xs : List V} {its : List Value} (r : Vals xs its) : ∀ js : List Nat, Vals (js.filterMap (xs[·]?)) (js.filterMap (its[·]?))
  | [] => .nil
  | j :: js => by
    have t := vals_pick r js
    by_cases h : j < xs.length
    · obtain ⟨u, hu, ru⟩ := r.get (List.getElem?_eq_getElem h)
      rw [List.filterMap_cons, List.filterMap_cons, List.getElem?_eq_getElem h, hu]
      exact .cons ru t
    · have h2 : ¬ j < its.length := by rw [← r.length]; exact h
      rw [List.filterMap_cons, List.filterMap_cons, List.getElem?_eq_none (Nat.le_of_not_lt h), List.getElem?_eq_none (Nat.le_of_not_lt h2)]
      exact t
theorem pick_is (its : List Value) (k : Int) : (slicePick its.toArray none none (some k)).toList = stepV its k := by
  unfold slicePick stepV
  rw [List.size_toArray]
  simp
theorem bounds_step {n : Nat} {k : Int} (hk : 0 < k) : sliceBounds none none (some k) n = (0, (n : Int), k) := by
  unfold sliceBounds
  simp [show ¬ k ≤ 0 by omega, hk]
theorem step_is {α : Type} (xs : List α) (k : Int) (hk : 0 < k) (c : Nat) (d : α) (hc : ((xs.length : Int) + k - 1) / k = (c : Int)) (hx : 0 < xs.length) (hl : ∀ j : Nat, j < c → (k * (j : Int)).toNat < xs.length) : stepV xs k = (List.range c).map fun (j : Nat) => xs.getD (k * (j : Int)).toNat d := by
  unfold stepV
  rw [bounds_step hk]
  have e : sliceRange 0 (xs.length : Int) k = (List.range c).map fun (j : Nat) => (0 + k * (j : Int)).toNat := by
    unfold sliceRange
    simp only [if_pos (show k > 0 from hk), if_pos (show (0 : Int) < (xs.length : Int) by omega)]
    rw [show (xs.length : Int) - 0 + k - 1 = (xs.length : Int) + k - 1 by omega, hc, Int.toNat_natCast]
  show List.filterMap (xs[·]?) (sliceRange 0 (xs.length : Int) k) = _
  rw [e, List.filterMap_map]
  have go : ∀ js : List Nat, (∀ j ∈ js, j < c) → List.filterMap ((xs[·]?) ∘ fun (j : Nat) => (0 + k * (j : Int)).toNat) js = js.map fun (j : Nat) => xs.getD (k * (j : Int)).toNat d := by
    intro js
    induction js with
    | nil => intro _; rfl
    | cons j r ih =>
      intro h
      have hj := hl j (h j List.mem_cons_self)
      have e1 : ((xs[·]?) ∘ fun (j : Nat) => (0 + k * (j : Int)).toNat) j = some xs[(k * (j : Int)).toNat] := by
        show xs[(0 + k * (j : Int)).toNat]? = _
        rw [Int.zero_add]; exact List.getElem?_eq_getElem hj
      rw [List.filterMap_cons, e1, List.map_cons, ih fun i hi => h i (List.mem_cons_of_mem _ hi)]
      simp [List.getD, hj]
  exact go _ fun j hj => List.mem_range.mp hj
theorem step_len {α : Type} (xs : List α) {k : Int} (hk : 0 < k) : (stepV xs k).length ≤ xs.length := by
  unfold stepV
  refine Nat.le_trans (List.length_filterMap_le _ _) (sliceRange_length_le _ _ _ _ (fun _ => ?_) fun h => ?_)
  · have e := bounds_step (n := xs.length) hk
    rw [e]; exact ⟨Int.le_refl _, Int.le_refl _⟩
  · exfalso
    have e := bounds_step (n := xs.length) hk
    rw [e] at h
    exact h hk
def tStepL (K : PySem.W.Frag) (te : TE) (k : Int) : TE := fun σ H Q => te σ H fun x H1 => ∃ a xs, x = .ref a ∧ SqL K H1 a xs ∧ ∀ p, H1 p = none → Q (.ref p) (upd H1 p (.lst (stepV xs k)))
theorem pe_stepL {X : Cx} {e : Expr} {te : TE} {n : Int} {k : Nat} {p1 p3 pos : Pos} (he : PE X e te) (hn : 0 < n) : PE X (.Subscript e (.Slice none none (some (.Constant (.int n) k p1)) p3) pos) (tStepL X.K te n) := by
  refine ⟨fun pins s σ H Q I h => ?_⟩
  refine Subscript_ (thn (he.run pins s σ H _ I h) fun v t1 ⟨x, H1, J1, r1, a, xs, ex, hx, q⟩ => ?_)
  subst ex
  cases r1
  have st : PO X (some (.Constant (.int n) k p1)) (tPart (tC (.int n))) := po_some pe_int
  refine wpAny_Slice (thn (po_none.run pins t1 σ H1 (fun o G => o = none ∧ G = H1) J1 ⟨rfl, rfl⟩) fun w1 t2 ⟨o1, G1, J2, g1, z1, z2⟩ => ?_)
  subst z1 z2
  refine thn (po_none.run pins t2 σ G1 (fun o G => o = none ∧ G = G1) J2 ⟨rfl, rfl⟩) fun w2 t3 ⟨o2, G2, J3, g2, z1, z2⟩ => ?_
  subst z1 z2
  refine thn (st.run pins t3 σ G2 (fun o G => o = some n ∧ G = G2) J3 ⟨n, rfl, rfl, rfl⟩) fun w3 t4 ⟨o3, G3, J4, g3, z1, z2⟩ => ?_
  subst z1 z2
  have J5 : Inv X pins σ G3 { t4 with heap := t4.heap.push { cls := .type "slice", data := .fields #[w1, w2, w3] } } := J4.kept (t' := t4.toks) fun b u q => Heap.get?_push_of_some _ q
  obtain ⟨its, r, hl, hz⟩ := J5.list hx
  have hlen := r.length
  show wpAny (model X.prog X.w) X.A (subscriptTail e (.Slice none none (some (.Constant (.int n) k p1)) p3) (.ref a) (.ref t4.heap.objs.size)) (EP X pins σ Q) X.xe { t4 with heap := t4.heap.push { cls := .type "slice", data := .fields #[w1, w2, w3] } }
  refine tail_any (ops := [.ref a, .ref t4.heap.objs.size]) hl.isList.typeIs (PySem.slot_list_getitem.lookup) ?_ (by with_unfolding_all rfl)
  refine wpAny_getItem_list_slice hl.isList (Heap.IsSliceOf.new _ w1 w2 w3) g1 g2 g3 (by intro z; injection z with z; omega) ?_ (by rw [List.size_toArray]; omega)
  have hv : Vals (stepV xs n) (slicePick its.toArray none none (some n)).toList := by
    rw [pick_is]
    unfold stepV
    rw [hlen]
    exact vals_pick r _
  refine ⟨.ref _, _, J5.laid (t' := t4.toks) (o := .lst (stepV xs n)) (fun b u q => Heap.get?_push_of_some _ q) (Nat.le_refl _) ?_, rfl, q _ (J5.hok.fresh (Nat.le_refl _))⟩
  exact ⟨Nat.le_trans (step_len xs hn) hz, _, 0, hv, by rw [Array.toArray_toList]; exact Heap.get?_push_size _ rfl⟩
theorem el_step {K : PySem.W.Frag} {σ : L2.St} {H : Hp} {te : TE} {a : Addr} {xs : List V} {k : Int} (h : Ev te σ H (.ref a)) (hx : SqL K H a xs) : EvL (tStepL K te k) σ H (stepV xs k) := fun H1 e Q q =>
  h H1 e _ fun H2 e2 => ⟨a, xs, rfl, ex_l (e.trans e2) hx, fun p hp => q p _ (fresh_back e2 hp) (e2.trans (Ex.new hp)) upd_same⟩
end Sw
namespace Sw
open PySem PySem.Spec PyProof.Rows L2 Evl LamX NdefX
/-! ### an exception's own __init__ that begins with super().__init__(..) -/
/-- what the written part says of such a method: its object, its code, its cell, its class -/
structure SupF (P : Program) (K : PySem.W.Frag) (qual : Str) (st : Stmt) (f : Addr) (fd : FuncData) (cda cc D : Addr) : Prop where
  ex : ∃ (oc : Value) (od : Option Addr) (kV doc pm : Value) (an : Option Addr) (ct : Value) (osl : Array (Option Value)), fd = PySem.W.ksFn "__init__" qual (L2.defArgs st) (L2.defBody st) (L2.defScope st) .none kV doc pm an (.ref cda) ct cc ∧ K.lookup f = some ⟨oc, od, .func fd, osl⟩ ∧ PySem.W.codeIn K (.ref cda) qual = true
  code : ∃ (oc : Value) (od : Option Addr) (vs : Array Value) (sl : Array (Option Value)) (file : Str) (tf : Tok), K.lookup cda = some ⟨oc, od, .fields vs, sl⟩ ∧ vs[2]? = some (.str file tf) ∧ ((P.main.file : Str) == file) = true
  cell : ∃ (oc : Value) (od : Option Addr) (sl : Array (Option Value)), K.lookup cc = some ⟨oc, od, .cell (some (.ref D)), sl⟩
  any : PySem.W.nsIn K cStatics "thirdparty.any" = some none
  sup : PySem.W.ks_superIn K D D "__init__" = some (some (.builtin "ValueError.__init__"))
  sub : PySem.W.mroIn K D (.ref D) = some true
  subV : PySem.W.subIn K (.ref D) (.type "ValueError") = some true
  top : (P.main.scope.names.lookup ("super" : Str)).isSome = false
theorem inv_pin {X : Cx} {pins : List (Addr × Obj)} {σ : L2.St} {H : Hp} {s : Shared} {p : Addr × Obj} (I : Inv X pins σ H s) (h : s.heap.get? p.1 = some p.2 ∧ H p.1 = none ∧ p.1 ≠ X.env.locals ∧ p.1 ∉ X.fs ∧ ∀ v, p.2.data ≠ .cell v) : Inv X (p :: pins) σ H s := I.pins_of fun q hq => by
  rcases List.mem_cons.mp hq with rfl | hq
  · exact h
  · exact I.pin q (List.mem_append_right _ hq)
theorem inv_unpin {X : Cx} {pins : List (Addr × Obj)} {σ : L2.St} {H : Hp} {s : Shared} {p : Addr × Obj} (I : Inv X (p :: pins) σ H s) : Inv X pins σ H s := I.pins_of fun q hq => I.pin q (List.mem_append_right _ (List.mem_cons_of_mem _ hq))
/-- the bound initializer is called: the exception's arguments are set, nothing of them is told -/
theorem mw_call {X : Cx} {pins : List (Addr × Obj)} {σ : L2.St} {H : Hp} {s : Shared} {C a u : Addr} {us : List Value} {Q : Value → Shared → Prop} {E : Value → Shared → Prop} {A : Around} (T : OexC X.K C) (I : Inv X pins σ H s) (e : H a = some (exo a C none)) (hu : s.heap.get? u = some (PySem.W.kxs_mw "ValueError.__init__" a)) (hl : us.length ≤ sizeLine)
    (h : ∀ s', Inv X pins σ H s' → Q .none s') : wpAny (model X.prog X.w) A (call (.ref u) us) Q E s := by
  obtain ⟨nm, q, N, bs, bm, sn, sub, ab, col, dd, k0, k1, k2, k3, k5, hC, hbm⟩ := T.cls
  obtain ⟨t1, ho⟩ := exo_at I.hok e
  have kI := I.kIn _ _ hC
  have eu : upd H a (exo a C none) = H := by
    funext b
    by_cases hb : b = a
    · rw [hb, upd_same, e]
    · rw [upd_ne hb]
  obtain ⟨hp, g, d, t, os⟩ := s
  refine wpAny_call (codeAny_of_tree ?_)
  show wpAny _ A.in1 (callAny (.ref u) ⟨us, []⟩) _ _ _
  simp only [callAny]
  refine wpAny_bind (wpAny_load hu ?_)
  simp only [PySem.W.kxs_mw, show (Value.type "method-wrapper" == Value.type "method" || Value.type "method-wrapper" == Value.type "builtin_function_or_method" || Value.type "method-wrapper" == Value.type "method-wrapper") = true by decide, if_true]
  refine PySem.W.KFB.if_so (by decide) ?_
  refine wpAny_bind (PySem.W.check_bound_init PySem.F.excBase_ValueError.toExcCallFacts kI ho rfl ?_)
  refine wpAny_bind (wpAny_pure (wpAny_pure ?_))
  refine ⟨plainId_quiet PySem.F.excBase_ValueError.init.plain _, codeAny_builtin PySem.F.excBase_ValueError.initEntry ?_⟩
  refine PySem.W.exc_init_tree (cls := .ref C) (t0 := t1) (dv := none) (c2 := .none) (c3 := .none) (b4 := .bool false) ho hl fun h' k hx _ => ?_
  have J := I.write (t' := t) (x := a) (e := a) (o := exo a C none) (by rw [e]; exact True.intro) (.inl rfl) k ⟨_, hx⟩ (exo_ok hx)
  rw [eu] at J
  exact h _ J
/-- such a method keeps its promise -/
theorem sup_fn {CX : CXT} {P : Program} {w : World} {K : PySem.W.Frag} {mg : Str → Option Value} {base : Heap} {k : Nat} {f cda cc D : Addr} {fd : FuncData} {qual : Str} {st : Stmt} {N ps : List Str} {sp : Sp} {ar : Arg} {x : Expr} {rest : List Stmt} {p0 p1 p2 pos1 pos2 : Pos} {pl : Sem Bool}
    (F : SupF P K qual st f fd cda cc D) (T : OexC K D) (hst : L2.defBody st = .Expr (.Call (.Attribute (.Call (.Name "super" p0) [] [] p1) "__init__" p2) [x] [] pos1) pos2 :: rest) (S : NScope N ps ["__class__"] (L2.defScope st))
    (hself : ((L2.defArgs st).posonlyargs ++ (L2.defArgs st).args).head? = some ar) (hN0 : N[0]? = some ar.arg) (hka : (L2.defScope st).names.lookup ar.arg = some .local) (hks : (L2.defScope st).names.lookup ("super" : Str) = some .globalImplicit) (hmg : mg "super" = none)
    (hpl : ∀ env : Env, eval (.Call (.Attribute (.Call (.Name "super" p0) [] [] p1) "__init__" p2) [x] [] pos1) env = (do
      let ov ← attributeBase (.Call (.Name "super" p0) [] [] p1) "__init__" env (eval (.Call (.Name "super" p0) [] [] p1) env)
      standAt p2.atName
      let (f, first) ← holding [ov] (getMethod ov "__init__" pl)
      callWith pos1 f first (backTo pos1 (starEach [x] env)) [])) (hsw : ∀ (l : Nat) (env : Env), swapsWith (.Call (.Attribute (.Call (.Name "super" p0) [] [] p1) "__init__" p2) [x] [] pos1) none l env = pure false) (hsx : ∀ env : Env, starEach [x] env = (false, eval x env) :: starEach [] env)
    (len : ∀ vs H Q E, sp vs H Q E → vs.length = ps.length)
    (hbody : ∀ (A : Around) (outer : List Env) (s : Shared) (H : Hp) (vs : List V) (Q : VK) (E : XK), Room k (A.deeper (envF ⟨"__init__", qual, L2.defArgs st, L2.defBody st, L2.defScope st, [("__class__", cc)], cda⟩ f s.heap.objs.size)) → sp vs H Q E →
      ∃ (ta : TA) (tr : TS) (a : Addr) (ws : List V), PA (ncx CX P w K mg base N ⟨"__init__", qual, L2.defArgs st, L2.defBody st, L2.defScope st, [("__class__", cc)], cda⟩ f A outer s H E) [x] ta ∧ PSs (ncx CX P w K mg base N ⟨"__init__", qual, L2.defArgs st, L2.defBody st, L2.defScope st, [("__class__", cc)], cda⟩ f A outer s H E) rest tr ∧
        vs = .ref a :: ws ∧ H a = some (exo a D none) ∧ ta (startF N vs [none]) H (fun us H1 => us.length ≤ 1000 ∧ H1 a = some (exo a D none) ∧ tr { nx := fun _ H' => Q .non H', rt := Q } (startF N vs [none]) H1)) :
    FnOk P w K mg base CX (k + 1) f fd ps sp := by
  obtain ⟨oc, od, kV, doc, pm, an, ct, osl, rfl, lk, hcd⟩ := F.ex
  obtain ⟨oc1, od1, cvs, sl1, file, tf, hcode, hvs, hfile⟩ := F.code
  obtain ⟨oc2, od2, sl2, hcell⟩ := F.cell
  obtain ⟨nm, q, NN, bs, bm, sn, sub, ab, col, dd, k0, k1, k2, k3, k5, hC, hbm⟩ := T.cls
  have hcl : PySem.W.clsIn K D = some { name := nm, bases := bs, mro := .ref D :: bm, ns := NN, qualname := q, hasDict := true, slotNames := sn, subclasses := sub, abstract := ab, collection := col, hasDel := false } := by unfold PySem.W.clsIn; rw [hC] <;> rfl
  refine ⟨len, fun A outer s H args us vs Q E hr e0 hb r hsp => ?_⟩
  have hl := len _ _ _ _ hsp
  have KX : K.In s.heap := e0.mod.kin.keeps fun b o e => (e0.bs b o e).1
  have lim : s.heap.NoLimit := e0.mod.nolimit.keeps fun b o e => (e0.bs b o e).1
  have kc : (L2.defScope st).names.lookup ("__class__" : Str) = some .free := S.frk _ (by simp)
  refine ks_codeAny_call_defAt (body := .Expr (.Call (.Attribute (.Call (.Name "super" p0) [] [] p1) "__init__" p2) [x] [] pos1) pos2 :: rest) (binds := ps.zip us) hr.depth (KX _ _ lk) rfl lim (PySem.W.codeRec_of KX hcd) (by rw [← hst]) hb S.nocell (fun ⟨n, v⟩ hy => S.par n (List.of_mem_zip hy).1) (fun h₁ hns kp => ?_) S.co S.gen S.kind
  obtain ⟨ta, tr, a, ws, hx, hrest, rfl, ea, hq⟩ := hbody A outer s H vs Q E (hr.deeper _) hsp
  have hlk : ∀ (y : Str) (c : Addr), List.lookup y [(("__class__" : Str), cc)] = some c → y = "__class__" ∧ c = cc := fun y c e => by
    cases h : (y == ("__class__" : Str)) with
    | true => simp only [List.lookup, h, Option.some.injEq] at e; exact ⟨beq_iff_eq.mp h, e.symm⟩
    | false => simp [List.lookup, h] at e
  have cells : CellsAt [(("__class__" : Str), cc)] ["__class__"] [none] s.heap H := by
    refine ⟨rfl, fun y c e => ?_, fun y z c e1 e2 => (hlk y c e1).1.trans (hlk z c e2).1.symm, fun i y e => ?_⟩
    · rw [(hlk y c e).2]; exact ⟨(e0.bs _ _ (e0.mod.kin _ _ hcell)).2, _, _, KX _ _ hcell, rfl⟩
    · match i, e with
      | 0, e => cases e; exact ⟨cc, rfl, fun v hv => by cases hv⟩
  have I : Inv (ncx CX P w K mg base N ⟨"__init__", qual, L2.defArgs st, L2.defBody st, L2.defScope st, [("__class__", cc)], cda⟩ f A outer s H E) [] (startF N (V.ref a :: ws) [none]) H { s with heap := h₁, toks := s.toks + (ps.zip us).length } := inv_startN (F := ⟨"__init__", qual, L2.defArgs st, L2.defBody st, L2.defScope st, [("__class__", cc)], cda⟩) S hr.hd e0 hl r cells hns kp
  refine ks_wpAt_execs_cons (ks_wpAt_Expr_any (ks_wpAt_MethodCall (pl := pl) ?_ (hpl _)) I.quiet (hsw _ _))
  have ho := exo_at I.hok ea
  obtain ⟨t1, ho⟩ := ho
  obtain ⟨mb, hb1, hb2⟩ := I.mod.blt
  have hD := I.kIn _ _ hC
  refine ks_wpAt_super_base hks kc rfl rfl (I.kIn _ _ lk) rfl hself rfl (I.kIn _ _ hcode) rfl hvs hfile F.top ?_
  refine PySem.W.ks_loadName_global S.kind hks (Calls.loadGlobal_builtin (I.mod.glob.keeps I.bk) hmg (hb1.keeps I.bk) ((hb2 _ (by decide)).trans (by first | boot_by_name | rfl | kernel_rfl)) ⟨rfl, ?_⟩)
  refine wpAny_loadName_free S.kind kc rfl ⟨_, I.kIn _ _ hcell, rfl⟩ ?_
  obtain ⟨m, hn, hlo⟩ := I.loc
  obtain ⟨u, ru, lku⟩ := hlo 0 ar.arg (.ref a) hN0 rfl (.inl hka)
  obtain rfl : u = Value.ref a := ru
  have hv : m ar.arg = some (Value.ref a) := by
    rcases lku with ⟨_, z⟩ | ⟨z, _⟩
    · exact z
    · have z' : (L2.defScope st).names.lookup ar.arg = some .cell ∨ (L2.defScope st).names.lookup ar.arg = some .free := z
      rw [hka] at z'; rcases z' with z' | z' <;> cases z'
  refine wpAny_loadName_local S.kind hka hn hv ?_
  refine ks_wpAny_isType_cls hD rfl ⟨rfl, ?_⟩
  refine ks_wpAny_call_super hD rfl ho rfl (fun c z => by cases z) (PySem.W.looks_mroIn I.kIn F.sub) (fun h' eso kk => ?_)
  have I1 := I.kept (t' := s.toks + (ps.zip us).length) kk
  have ho1 := kk _ _ ho
  have LT : PySem.W.Looks (model P w) h' (typeOf (.ref a)) (.ref D) := fun A Q E s k q => wpAny_typeOf_ref (k _ _ ho1) q
  have LI : PySem.W.Looks (model P w) h' (isInstance (.ref a) (.type "ValueError")) true := LT.andThen (PySem.W.looks_subIn I1.kIn F.subV)
  have ne : a ≠ D := fun z => by
    subst z
    rw [ho] at hD
    cases hD
  have hsup : PySem.W.alongIn K "__init__" (((Value.ref D :: bm).dropWhile (· != Value.ref D)).drop 1) = some (some (.builtin "ValueError.__init__")) := by
    have z := F.sup
    unfold PySem.W.ks_superIn at z
    rw [hcl] at z
    exact z
  refine PySem.W.kxs_getMethod PySem.W.kxs_ValueError eso (PySem.W.looks_opaque I1.kIn F.any) (l₀ := .ref D :: bm) (fun A Q E s k q => wpAny_bind ((PySem.W.looks_clsIn I1.kIn hcl) A _ E s k (wpAny_pure q))) rfl I1.kIn hsup LI ne rfl ?_
  have I2 := I1.kept (t' := s.toks + (ps.zip us).length + 1) (h' := h'.push (PySem.W.kxs_mw "ValueError.__init__" a)) (fun b o e => Heap.get?_push_of_some _ e)
  have gu : (h'.push (PySem.W.kxs_mw "ValueError.__init__" a)).get? h'.objs.size = some (PySem.W.kxs_mw "ValueError.__init__" a) := Heap.get?_push_size _ rfl
  have nl : h'.objs.size ≠ s.heap.objs.size := Nat.ne_of_gt I1.lt
  have I3 := inv_pin (p := (h'.objs.size, PySem.W.kxs_mw "ValueError.__init__" a)) I2 ⟨gu, I1.hok.fresh (Nat.le_refl _), nl, I1.nofs (Nat.le_refl _), fun v z => nomatch z⟩
  have hxr := fun pos => hx.run pos _ _ _ _ _ I3 hq
  have hsx' := hsx (envF ⟨"__init__", qual, L2.defArgs st, L2.defBody st, L2.defScope st, [("__class__", cc)], cda⟩ f s.heap.objs.size)
  show wpAny _ _ (callWith pos1 (.ref h'.objs.size) [] (backTo pos1 (starEach [x] (envF ⟨"__init__", qual, L2.defArgs st, L2.defBody st, L2.defScope st, [("__class__", cc)], cda⟩ f s.heap.objs.size))) []) _ _ _
  have hx1 := hxr pos1
  have hx2 : wpAny (model P w) (A.deeper (envF ⟨"__init__", qual, L2.defArgs st, L2.defBody st, L2.defScope st, [("__class__", cc)], cda⟩ f s.heap.objs.size)) (spliced (backTo pos1 (starEach [x] (envF ⟨"__init__", qual, L2.defArgs st, L2.defBody st, L2.defScope st, [("__class__", cc)], cda⟩ f s.heap.objs.size)))) _ _ _ := hx1
  rw [hsx'] at hx2 ⊢
  refine PySem.W.kxs_callWith (i := "ValueError.__init__") (x := a) rfl (Calls.evalArgs_plain (wpAny_mono hx2 (fun vv s1 hs1 => ?_) fun e s' z => z))
  obtain ⟨vs1, H1, J1, r1, hz, ea1, q1⟩ := hs1
  have pu := (J1.pin _ (List.mem_append_right _ List.mem_cons_self)).1
  refine ⟨pu, ?_⟩
  refine mw_call T J1 ea1 pu (by rw [List.nil_append, ← Paired.length r1, sizeLine_eq]; omega) fun s2 J2 => ?_
  refine wpAt_of_wpAny (wpAny_mono (hrest.run [] _ _ _ _ (inv_unpin J2) q1) (fun fl s' hs => ?_) fun e s' z => z)
  have fin : ∀ {σ' : L2.St} {H' : Hp} {v : V} {u : Value}, Inv (ncx CX P w K mg base N ⟨"__init__", qual, L2.defArgs st, L2.defBody st, L2.defScope st, [("__class__", cc)], cda⟩ f A outer s H E) [] σ' H' s' → RelV v u → Q v H' → CE outer P w H s Q u s' :=
    fun {σ' H' v u} J rv q => ⟨v, H', J.os, J.bare, J.base, J.hok, rv, q⟩
  cases fl with
  | ret u =>
    obtain ⟨v, σ', H', J, rv, q⟩ := hs
    exact fin J rv q
  | next =>
    obtain ⟨σ', H', J, q⟩ := hs
    exact fin (v := V.non) (u := Value.none) J rfl q
  | brk =>
    obtain ⟨_, _, _, q⟩ := hs
    exact False.elim q
  | cont =>
    obtain ⟨_, _, _, q⟩ := hs
    exact False.elim q
end Sw
namespace Sw
open PySem PySem.Spec PyProof.Rows L2 Evl LamX NdefX
/-! ### promises of defs that may raise -/
section
variable {P : Program} {w : World} {K : PySem.W.Frag} {mg : Str → Option Value} {base : Heap} {CX : CXT} {k : Nat} {f : Addr} {fd : FuncData} {ps : List Str} {sp sp' : Sp}
theorem fn_lift (F : FnOk P w K mg base L2.CX0 k f fd ps sp) : FnOk P w K mg base CX k f fd ps sp := ⟨F.len, fun A outer s H args us vs Q E hr e0 hb r h => codeAny_mono (F.run A outer s H args us vs Q E hr e0 hb r h) fun r s' hq => by
  match r, hq with
  | .error e, hq => exact (show False from hq).elim
  | .ok (.ret u), hq => exact hq
  | .ok .next, hq => exact (show False from hq).elim
  | .ok .brk, hq => exact (show False from hq).elim
  | .ok .cont, hq => exact (show False from hq).elim⟩
def spOr (a b : Sp) : Sp := fun vs H Q E => a vs H Q E ∨ b vs H Q E
theorem fn_or (F : FnOk P w K mg base CX k f fd ps sp) (G : FnOk P w K mg base CX k f fd ps sp') : FnOk P w K mg base CX k f fd ps (spOr sp sp') := ⟨fun vs H Q E h => h.elim (F.len vs H Q E) (G.len vs H Q E), fun A outer s H args us vs Q E hr e0 hb r h => h.elim (F.run A outer s H args us vs Q E hr e0 hb r) (G.run A outer s H args us vs Q E hr e0 hb r)⟩
end
/-! ### a call, within a try, of what goes with an address -/
def tCalS (P : Program) (w : World) (K : PySem.W.Frag) (mg : Str → Option Value) (base : Heap) (CX : CXT) (k i : Nat) (E : L2.St → XK) : TE := fun σ H Q => ∃ f sp S, σ[i]? = some (some (.ref f)) ∧ Cal P w K mg base CX k f sp S ∧ Ex S H ∧ sp [] H Q (E σ)
theorem pe_calS (P : Program) (w : World) (K : PySem.W.Frag) (mg : Str → Option Value) (base : Heap) {X : Cx} {CX : CXT} {i j k : Nat} {x : Str} {E : L2.St → XK} {p pos : Pos} (h1 : X.prog = P) (h2 : X.w = w) (h3 : X.K = K) (h4 : X.mg = mg) (h5 : X.base = base) (hr : Room j X.A) (hk : k ≤ j) (hx : ∀ σ, PassesAt CX X σ (E σ)) (hN : X.N[i]? = some x) (hv : Vis X.env.scope x)
    (hd : (x == ("__debug__" : Str)) = false := by decide) (hcd : (x == ("__classdict__" : Str)) = false := by decide) : PE X (.Call (.Name x p) [] [] pos) (tCalS P w K mg base CX k i E) := by
  subst h1 h2 h3 h4 h5
  refine ⟨fun pins s σ H Q I ⟨f, sp, S, hs, C, eS, q⟩ => ?_⟩
  refine wpAny_Call_Name_kw (thn ((pe_var (pos := p) hN hv hd hcd).run pins s σ H (fun v H1 => v = .ref f ∧ H1 = H) I ⟨.ref f, hs, rfl, rfl⟩) fun u s1 ⟨v, H1, I1, r1, ev, eH⟩ => ?_)
  subst ev eH
  obtain rfl : u = Value.ref f := r1
  refine PySem.W.callWith_F0 (first := []) (lam_fnAt I1 C eS) (wpAny_call (codeAny_mono (C.2 X.A X.stack s1 H1 [] [] Q (E σ) eS (hr.mono hk) I1.env0 .nil q) fun r s' hq => ?_))
  match r, hq with
  | .error e, hq => exact hx σ pins H1 s1 e s' I1 hq
  | .ok (.ret u), hq => exact I1.after hq
  | .ok .next, hq => exact False.elim hq
  | .ok .brk, hq => exact False.elim hq
  | .ok .cont, hq => exact False.elim hq
/-! ### isinstance of the caught exception -/
structure ExI (K : PySem.W.Frag) (C : Addr) : Prop where
  cl : (PySem.W.clsIn K C).isSome = true
  ga : PySem.W.findIn K (.ref C) "__getattribute__" = some (some (.builtin "BaseException.__getattribute__"))
  gg : PySem.W.findIn K (.ref C) "__getattr__" = some none
  ex : PySem.W.subIn K (.ref C) (.type "BaseException") = some true
  hd : PySem.W.hasDictIn K C = true
  ca : PySem.W.findIn K (.ref C) "__class__" = some (some (.builtin "object.__class__"))
  cg : PySem.W.specialIn K (.builtin "object.__class__") "__get__" = some (some (.builtin "getset_descriptor.__get__"))
  ct : PySem.W.takesIn K (.builtin "object.__class__") = some true
  mo : PySem.W.mroIn K C (.type "object") = some true
theorem ExI.xf {K : PySem.W.Frag} {C : Addr} (T : ExI K C) : XfC K C := ⟨T.ga, T.gg, T.ex, T.hd⟩
def rIsX (K : PySem.W.Frag) (a : Addr) (cls : Value) (d : Option Addr) : List V → Hp → VK → Prop := fun xs H Q => ∃ (D : Addr) (c : V) (cv : Value) (b : Bool), cls = .ref D ∧ ExI K D ∧ xs = [.ref a, c] ∧ (∀ u, RelV c u → u = cv) ∧ PySem.W.kitOne K (.ref D) cv = some b ∧ (∀ dd, d = some dd → ∃ fs, H dd = some (.xd fs)) ∧ Q (.bl b) H
theorem call_isX {X : Cx} (K : PySem.W.Frag) (hK : X.K = K) {a : Addr} {cls : Value} {d : Option Addr} {oe : Obj} {pn : List (Addr × Obj)} (hz : Zc cls d oe) (hf : ∃ vs, oe.data = .fields vs) : CallR (X.suite a ((a, oe) :: pn)) (.builtin "isinstance") (rIsX K a cls d) := by
  subst hK
  intro pins s σ H xs us Q I r h
  obtain ⟨D, c, cv, b, rfl, T, rfl, hcv, e, hd, q⟩ := h
  cases r with
  | cons rx rr =>
    cases rr with
    | cons rt rr =>
      cases rr
      cases rx
      have ec := hcv _ rt
      subst ec
      have hget := (I.pin (a, oe) (List.mem_append.mpr (.inl List.mem_cons_self))).1
      obtain ⟨fv, hv⟩ := hf
      obtain ⟨oc, od, oda, osl⟩ := oe
      obtain ⟨z1, z2⟩ := hz
      dsimp only at z1 z2 hv
      subst z1 z2 hv
      have go : ∀ o2, PySem.W.InstAt s.heap a ⟨.ref D, od, .fields fv, osl⟩ D o2 → wpAny (model X.prog X.w) (X.suite a ((a, ⟨.ref D, od, .fields fv, osl⟩) :: pn)).A (call (.builtin "isinstance") [.ref a, _]) (EP (X.suite a ((a, ⟨.ref D, od, .fields fv, osl⟩) :: pn)) pins σ Q) (X.suite a ((a, ⟨.ref D, od, .fields fv, osl⟩) :: pn)).xe s := fun o2 J =>
        PySem.W.kia_one (PySem.W.kitx_exc T.cl T.ga T.gg T.ex T.ca T.cg T.ct T.mo) I.kIn J e (fun z => nomatch z) fun tk => ⟨.bl b, H, I.kept (t' := tk) fun _ _ z => z, rfl, q⟩
      cases od with
      | none => exact go none ⟨hget, rfl, rfl, trivial⟩
      | some dd =>
        obtain ⟨fs, hfs⟩ := hd dd rfl
        obtain ⟨mA, hns, _⟩ := (I.hok dd _ hfs : ObjOk _ _ _ _ dd (.xd fs))
        obtain ⟨o, es, ep, ho, _⟩ := hns
        exact go (some o) ⟨hget, rfl, rfl, ho⟩
theorem ev_isX {K : PySem.W.Frag} {σ : L2.St} {H : Hp} {te tc : TE} {a D dd : Addr} {c : V} {cv : Value} {b : Bool} {fs : List (Str × V)} (T : ExI K D) (he : Ev te σ H (.ref a)) (hc : Ev tc σ H c) (hcv : ∀ u, RelV c u → u = cv) (hb : PySem.W.kitOne K (.ref D) cv = some b) (hd : H dd = some (.xd fs)) :
    Ev (tCB (rIsX K a (.ref D) (some dd)) (tCons te (tCons tc tNil))) σ H (.bl b) := fun H1 e Q q => he H1 e _ fun H2 e2 => hc H2 (e.trans e2) _ fun H3 e3 => ⟨D, c, cv, b, rfl, T, rfl, hcv, hb, fun d1 z => by cases z; exact ⟨fs, e3 _ _ (e2 _ _ (e _ _ hd))⟩, q H3 (e2.trans e3)⟩
/-! ### count and index of flat items -/
theorem eq_count {y : V} : ∀ {ys : List V} {us : List Value}, Vals ys us → ys.all flatV = true → us.countP (eqU y) = ys.countP (fun z => eqV z y)
  | _, _, .nil, _ => rfl
  | _, _, .cons (a := z) (b := u) r rs, f => by
    rw [List.all_cons, Bool.and_eq_true] at f
    rw [List.countP_cons, List.countP_cons, eq_count rs f.2, eqU_of r f.1]
def rCntF (K : PySem.W.Frag) : V → List V → Hp → VK → Prop := fun x xs H Q => ∃ (p : Addr) (ys : List V) (y : V), x = .ref p ∧ xs = [y] ∧ SqL K H p ys ∧ flatV y = true ∧ ys.all flatV = true ∧ Q (.int (ys.countP (fun z => eqV z y) : Nat)) H
theorem mt_lcountF {X : Cx} (K : PySem.W.Frag) (hK : X.K = K) : MtR X "list.count" (rCntF K) := by
  subst hK
  intro pins s σ H x xs v us Q I rx rxs ⟨p, ys, y, ex, exs, hs, fy, fys, q⟩
  subst ex exs
  cases rx
  obtain ⟨uy, rfl, ry⟩ := rxs.one
  obtain ⟨its, rv, ⟨⟨cls, dd, data, sl⟩, n, ho, hc, hdn, hd⟩, hlen⟩ := I.list hs
  simp only at hc hd
  subst hc hd
  refine call_meets PySem.F.slot_list_count ⟨_, ho, rfl⟩ PySem.F.entry_list_count (PySem.F.args_list_count_2 _ _) (SeqAt.list_countAt p its.toArray n dd sl uy (eqU y)) ⟨ho, fun u hu => mem_eqAt ry fy rv fys u (by simpa using hu), ?_⟩
  refine ⟨.int (ys.countP (fun z => eqV z y) : Nat), H, I.tok _, ⟨s.toks, ?_⟩, q⟩
  show Value.int ((its.toArray.toList.countP (eqU y) : Nat) : Int) s.toks = Value.int ((ys.countP (fun z => eqV z y) : Nat) : Int) s.toks
  rw [show its.toArray.toList = its from rfl, eq_count rv fys]
theorem mt_indexK {X : Cx} (K : PySem.W.Frag) (hK : X.K = K) : MtR X "list.index" (rIndex K) := by
  subst hK; exact mt_index
theorem pe_bmK {X : Cx} (K : PySem.W.Frag) {o e : Expr} {es : List Expr} {to : TE} {t : TA} {name : Str} {apos cpos : Pos} {Ty id : String} {r : V → List V → Hp → VK → Prop} (hK : X.K = K) (pa : PlainAttrs Ty) (slot : Slot Ty name id) (hty : typeOf (.builtin id) = pure (.type "method_descriptor")) (hm : MtR X id r) (ho : PE X o to) (ha : PA X (e :: es) t)
    (hbase : attributeBase o name X.env (eval o X.env) = eval o X.env := by rfl)
    (hfew : ((backTo cpos (starEach (e :: es) X.env)).all (fun x => !x.1) && (backToKw cpos (keywordEach [] X.env)).all (fun x => x.1.isSome) && decide ((e :: es).length + ([] : List Keyword).length + (if ([] : List Keyword).isEmpty then 0 else 1) < 30)) = true := by rfl)
    (hline : (apos.endLine == cpos.line) = true := by rfl) (hs : starEach (e :: es) X.env = (false, eval e X.env) :: starEach es X.env := by rfl) (hplain : (backTo cpos (starEach es X.env)).any (·.1) = false := by rfl) : PE X (.Call (.Attribute o name apos) (e :: es) [] cpos) (tBM K Ty r to t) := by
  subst hK; exact pe_bm pa slot hty hm ho ha hbase hfew hline hs hplain
end Sw
namespace Sw
open PySem PySem.Spec PyProof.Rows L2 Evl
/-! ### min of a tuple of numbers -/
section
variable {prog : Program} {w : World} {A : Around} {E : Value → Shared → Prop} {s : Shared} {t : Addr} {xs : Array (Int × Tok)}
theorem min_intTup {Q : Value → Shared → Prop} (hh : A.handled = none) (ht : s.heap.IsTuple t (intItems xs)) (hne : 0 < xs.size)
    (h : ∀ v h' tk, (intItems xs)[argBest (fun i j => decide (numAt xs i < numAt xs j)) (xs.size - 1)]? = some v → (∀ b o, s.heap.get? b = some o → h'.get? b = some o) → Q v { s with heap := h', toks := tk }) :
    wpAny (model prog w) A (call (.builtin "min") [.ref t]) Q E s := by
  obtain ⟨o, ho, _, _, _⟩ := id ht
  have hlt : t < s.heap.objs.size := Heap.lt_size ho
  have hne' : t ≠ s.heap.objs.size := Nat.ne_of_lt hlt
  refine call_min_walk (wpAny_pyIter_tuple ht ?_)
  refine ⟨_, _, _, _, _, _, _, rfl, Walks.tuple (A := A.in1) hh _ t hne' (intItems xs), ⟨⟨_, Heap.get?_push_size _ rfl, rfl, rfl⟩, ht.at fun o e => Heap.get?_push_of_some _ e⟩, fun b hb => ?_, by simpa [intItems] using hne, CmpOf.ints_lt (numAt xs) (fun _ _ => intItems_at), fun v h' tk hP hk => ?_⟩
  · show b < (s.heap.push _).objs.size
    rw [Heap.size_push]
    rcases List.mem_cons.mp hb with rfl | hb
    · exact Nat.lt_succ_self _
    · rw [List.mem_singleton.mp hb]; exact Nat.lt_succ_of_lt hlt
  · refine h v h' tk (by simpa [intItems] using hP) fun b o e => hk b o (fun hm => ?_) (Heap.get?_push_of_some _ e)
    exact absurd (List.mem_singleton.mp hm ▸ Heap.lt_size e) (Nat.lt_irrefl _)
end
section
variable {X : Cx}
def rMinT (K : PySem.W.Frag) : List V → Hp → VK → Prop := fun vs H Q => ∃ (a : Addr) (ns : List Int), vs = [V.ref a] ∧ SqT K H a (ns.map V.int) ∧ 0 < ns.length ∧ ∀ m, m ∈ ns → (∀ y, y ∈ ns → m ≤ y) → Q (.int m) H
theorem cr_minT (hc : X.calm = true) : CallR X (.builtin "min") (rMinT X.K) := by
  intro pins s σ H vs us Q I r h
  obtain ⟨a, ns, rfl, hs, hne, q⟩ := h
  obtain ⟨its, rv, hl, _⟩ := I.tuple hs
  rw [Vals.ref1 r]
  obtain ⟨xs, e⟩ := rv.ints.allInts.items
  have hn : numsOf (intItems xs).toList = ns := by rw [← e]; exact rv.ints.numsOf
  rw [nums_intItems] at hn
  subst hn
  have hl' : s.heap.IsTuple a (intItems xs) := by rw [← e]; exact hl
  have hsz : 0 < xs.size := by simpa using hne
  refine min_intTup (I.ok.hd hc) hl' hsz fun v h' tk hv hk => ?_
  obtain ⟨t', rfl⟩ := intItems_at hv
  obtain ⟨h1, h2⟩ := argBest_lt (numAt xs) (xs.size - 1)
  refine ⟨.int _, H, I.kept hk, ⟨t', rfl⟩, q _ ?_ fun y hy => ?_⟩
  · rw [numAt_eq]; exact PySem.getD_mem (by rw [List.length_map, Array.length_toList]; omega)
  · obtain ⟨j, hj, rfl⟩ := mem_getD hy
    rw [List.length_map, Array.length_toList] at hj
    rw [← numAt_eq]; exact h2 j (by omega)
end
theorem ev_minW0 {K : PySem.W.Frag} {σ : L2.St} {H : Hp} {ta : TE} {ns : List Int} {bot : Int} (h : EvW K ta σ H (ns.map V.int)) (h0 : bot ∈ ns) (h1 : ∀ y ∈ ns, bot ≤ y) : Ev (tCB (rMinT K) (tCons ta tNil)) σ H (.int bot) := fun H1 e Q q =>
  h H1 e _ fun p H2 e2 h2 => ⟨p, ns, rfl, h2, List.length_pos_of_mem h0, fun m hm hle => by
    have e : m = bot := Int.le_antisymm (hle bot h0) (h1 m hm)
    rw [e]; exact q H2 e2⟩
theorem exists_bot : ∀ {xs : List Int}, 0 < xs.length → ∃ t, t ∈ xs ∧ ∀ y ∈ xs, t ≤ y
  | [], h => absurd h (by decide)
  | [x], _ => ⟨x, by simp, by simp⟩
  | x :: y :: r, _ => by
    obtain ⟨t, ht, hm⟩ := exists_bot (xs := y :: r) (by simp)
    rcases Int.le_total x t with z | z
    · exact ⟨x, List.mem_cons_self, fun u hu => by rcases List.mem_cons.mp hu with e | e; omega; have := hm u e; omega⟩
    · exact ⟨t, List.mem_cons_of_mem _ ht, fun u hu => by rcases List.mem_cons.mp hu with e | e; omega; exact hm u e⟩
end Sw
namespace Sw
open PySem PySem.Spec PyProof.Rows L2 Evl
theorem fnR_of {P : Program} {w : World} {K : PySem.W.Frag} {mg : Str → Option Value} {base : Heap} {CX : CXT} {k : Nat} {f : Addr} {fd : FuncData} {ps : List Str} {sp : Sp} (F : FnOk P w K mg base CX k f fd ps sp) (hb : Binds K fd ps []) : FnR P w K mg base CX k f sp :=
  (F.raw hb .nil).imp fun vs H Q E h => by rw [List.append_nil]; exact h
end Sw
namespace Sw
open PySem PySem.Spec PyProof.Rows L2 Evl
def topS (i : Nat) : Stmt := PySem.Challenge.pw_staleloaves_k44_whole_profits.main.body.getD i (.Pass ⟨0, 0, 0, 0⟩)
abbrev s_count_keepable : Stmt := topS 3
abbrev n_count_keepable : List Str := ["bakes", "life", "length", "at", "age"]
abbrev p_count_keepable : List Str := ["bakes", "life"]
theorem sc_count_keepable : FnScope n_count_keepable p_count_keepable (defScope s_count_keepable) := ⟨rfl, rfl, rfl, by decide +kernel, rfl, by decide +kernel, by decide +kernel⟩
abbrev s_sum_repeated : Stmt := topS 2
abbrev n_sum_repeated : List Str := ["amounts", "days", "rounds", "rest"]
abbrev p_sum_repeated : List Str := ["amounts", "days"]
theorem sc_sum_repeated : FnScope n_sum_repeated p_sum_repeated (defScope s_sum_repeated) := ⟨rfl, rfl, rfl, by decide +kernel, rfl, by decide +kernel, by decide +kernel⟩
abbrev s_Course___init__ : Stmt := inClass (topS 4) 0
abbrev n_Course___init__ : List Str := ["self", "bakes", "demands", "life"]
abbrev p_Course___init__ : List Str := ["self", "bakes", "demands", "life"]
theorem sc_Course___init__ : FnScope n_Course___init__ p_Course___init__ (defScope s_Course___init__) := ⟨rfl, rfl, rfl, by decide +kernel, rfl, by decide +kernel, by decide +kernel⟩
abbrev s_Course_stock_at : Stmt := inClass (topS 4) 1
abbrev n_Course_stock_at : List Str := ["self", "day", "rounds", "at"]
abbrev p_Course_stock_at : List Str := ["self", "day"]
theorem sc_Course_stock_at : FnScope n_Course_stock_at p_Course_stock_at (defScope s_Course_stock_at) := ⟨rfl, rfl, rfl, by decide +kernel, rfl, by decide +kernel, by decide +kernel⟩
abbrev s_Course_sales_before : Stmt := inClass (topS 4) 3
abbrev n_Course_sales_before : List Str := ["self", "days", "later", "missed", "sold"]
abbrev p_Course_sales_before : List Str := ["self", "days"]
theorem sc_Course_sales_before : FnScope n_Course_sales_before p_Course_sales_before (defScope s_Course_sales_before) := ⟨rfl, rfl, rfl, by decide +kernel, rfl, by decide +kernel, by decide +kernel⟩
abbrev s_Course_find_settled : Stmt := inClass (topS 4) 5
abbrev n_Course_find_settled : List Str := ["self", "rounds", "stocks", "later", "at"]
abbrev p_Course_find_settled : List Str := ["self"]
theorem sc_Course_find_settled : FnScope n_Course_find_settled p_Course_find_settled (defScope s_Course_find_settled) := ⟨rfl, rfl, rfl, by decide +kernel, rfl, by decide +kernel, by decide +kernel⟩
abbrev s_Course_sum_settled_round : Stmt := inClass (topS 4) 6
abbrev n_Course_sum_settled_round : List Str := ["self", "missed", "sold"]
abbrev p_Course_sum_settled_round : List Str := ["self"]
theorem sc_Course_sum_settled_round : FnScope n_Course_sum_settled_round p_Course_sum_settled_round (defScope s_Course_sum_settled_round) := ⟨rfl, rfl, rfl, by decide +kernel, rfl, by decide +kernel, by decide +kernel⟩
abbrev s_Course__play_round : Stmt := inClass (topS 4) 7
abbrev n_Course__play_round : List Str := ["self", "stock", "stocks", "bake", "demand", "most", "left"]
abbrev p_Course__play_round : List Str := ["self", "stock"]
theorem sc_Course__play_round : FnScope n_Course__play_round p_Course__play_round (defScope s_Course__play_round) := ⟨rfl, rfl, rfl, by decide +kernel, rfl, by decide +kernel, by decide +kernel⟩
abbrev s_Course__stocks_in : Stmt := inClass (topS 4) 8
abbrev n_Course__stocks_in : List Str := ["self", "rounds", "start"]
abbrev p_Course__stocks_in : List Str := ["self", "rounds"]
theorem sc_Course__stocks_in : FnScope n_Course__stocks_in p_Course__stocks_in (defScope s_Course__stocks_in) := ⟨rfl, rfl, rfl, by decide +kernel, rfl, by decide +kernel, by decide +kernel⟩
abbrev s_Course__misses_in : Stmt := inClass (topS 4) 9
abbrev n_Course__misses_in : List Str := ["self", "rounds", "stocks", "at", "demand"]
abbrev p_Course__misses_in : List Str := ["self", "rounds"]
theorem sc_Course__misses_in : FnScope n_Course__misses_in p_Course__misses_in (defScope s_Course__misses_in) := ⟨rfl, rfl, rfl, by decide +kernel, rfl, by decide +kernel, by decide +kernel⟩
abbrev s_Course__count_growing : Stmt := inClass (topS 4) 10
abbrev n_Course__count_growing : List Str := ["self"]
abbrev p_Course__count_growing : List Str := ["self"]
theorem sc_Course__count_growing : FnScope n_Course__count_growing p_Course__count_growing (defScope s_Course__count_growing) := ⟨rfl, rfl, rfl, by decide +kernel, rfl, by decide +kernel, by decide +kernel⟩
abbrev s_check_number : Stmt := topS 13
abbrev n_check_number : List Str := ["number", "lowest", "highest"]
abbrev p_check_number : List Str := ["number", "lowest", "highest"]
theorem sc_check_number : FnScope n_check_number p_check_number (defScope s_check_number) := ⟨rfl, rfl, rfl, by decide +kernel, rfl, by decide +kernel, by decide +kernel⟩
abbrev s_check_amounts : Stmt := topS 24
abbrev n_check_amounts : List Str := ["part", "amounts", "at", "amount"]
abbrev p_check_amounts : List Str := ["part", "amounts"]
theorem sc_check_amounts : FnScope n_check_amounts p_check_amounts (defScope s_check_amounts) := ⟨rfl, rfl, rfl, by decide +kernel, rfl, by decide +kernel, by decide +kernel⟩
abbrev s_check_life : Stmt := topS 25
abbrev n_check_life : List Str := ["life"]
abbrev p_check_life : List Str := ["life"]
theorem sc_check_life : FnScope n_check_life p_check_life (defScope s_check_life) := ⟨rfl, rfl, rfl, by decide +kernel, rfl, by decide +kernel, by decide +kernel⟩
abbrev s_check_bakery : Stmt := topS 26
abbrev n_check_bakery : List Str := ["bakes", "demands", "life"]
abbrev p_check_bakery : List Str := ["bakes", "demands", "life"]
theorem sc_check_bakery : FnScope n_check_bakery p_check_bakery (defScope s_check_bakery) := ⟨rfl, rfl, rfl, by decide +kernel, rfl, by decide +kernel, by decide +kernel⟩
abbrev s_Bakery___init__ : Stmt := inClass (topS 27) 2
abbrev n_Bakery___init__ : List Str := ["self", "bakes", "demands", "life"]
abbrev p_Bakery___init__ : List Str := ["self", "bakes", "demands", "life"]
theorem sc_Bakery___init__ : FnScope n_Bakery___init__ p_Bakery___init__ (defScope s_Bakery___init__) := ⟨rfl, rfl, rfl, by decide +kernel, rfl, by decide +kernel, by decide +kernel⟩
abbrev s_Bakery_bakes : Stmt := inClass (topS 27) 3
abbrev n_Bakery_bakes : List Str := ["self"]
abbrev p_Bakery_bakes : List Str := ["self"]
theorem sc_Bakery_bakes : FnScope n_Bakery_bakes p_Bakery_bakes (defScope s_Bakery_bakes) := ⟨rfl, rfl, rfl, by decide +kernel, rfl, by decide +kernel, by decide +kernel⟩
abbrev s_Bakery_settled_day : Stmt := inClass (topS 27) 6
abbrev n_Bakery_settled_day : List Str := ["self"]
abbrev p_Bakery_settled_day : List Str := ["self"]
theorem sc_Bakery_settled_day : FnScope n_Bakery_settled_day p_Bakery_settled_day (defScope s_Bakery_settled_day) := ⟨rfl, rfl, rfl, by decide +kernel, rfl, by decide +kernel, by decide +kernel⟩
abbrev s_Bakery_long_run : Stmt := inClass (topS 27) 7
abbrev n_Bakery_long_run : List Str := ["self"]
abbrev p_Bakery_long_run : List Str := ["self"]
theorem sc_Bakery_long_run : FnScope n_Bakery_long_run p_Bakery_long_run (defScope s_Bakery_long_run) := ⟨rfl, rfl, rfl, by decide +kernel, rfl, by decide +kernel, by decide +kernel⟩
abbrev s_Bakery_totals : Stmt := inClass (topS 27) 14
abbrev n_Bakery_totals : List Str := ["self", "days"]
abbrev p_Bakery_totals : List Str := ["self", "days"]
theorem sc_Bakery_totals : FnScope n_Bakery_totals p_Bakery_totals (defScope s_Bakery_totals) := ⟨rfl, rfl, rfl, by decide +kernel, rfl, by decide +kernel, by decide +kernel⟩
abbrev s_check_price : Stmt := topS 18
abbrev n_check_price : List Str := ["part", "cents"]
abbrev p_check_price : List Str := ["part", "cents"]
theorem sc_check_price : FnScope n_check_price p_check_price (defScope s_check_price) := ⟨rfl, rfl, rfl, by decide +kernel, rfl, by decide +kernel, by decide +kernel⟩
abbrev s_Prices___init__ : Stmt := inClass (topS 19) 0
abbrev n_Prices___init__ : List Str := ["self", "sale", "cost", "waste"]
abbrev p_Prices___init__ : List Str := ["self", "sale", "cost", "waste"]
theorem sc_Prices___init__ : FnScope n_Prices___init__ p_Prices___init__ (defScope s_Prices___init__) := ⟨rfl, rfl, rfl, by decide +kernel, rfl, by decide +kernel, by decide +kernel⟩
abbrev s_Prices_cents : Stmt := inClass (topS 19) 1
abbrev n_Prices_cents : List Str := ["self"]
abbrev p_Prices_cents : List Str := ["self"]
theorem sc_Prices_cents : FnScope n_Prices_cents p_Prices_cents (defScope s_Prices_cents) := ⟨rfl, rfl, rfl, by decide +kernel, rfl, by decide +kernel, by decide +kernel⟩
abbrev s_Prices___call__ : Stmt := inClass (topS 19) 2
abbrev n_Prices___call__ : List Str := ["self", "baked", "sold", "thrown", "sale", "cost", "waste"]
abbrev p_Prices___call__ : List Str := ["self", "baked", "sold", "thrown"]
theorem sc_Prices___call__ : FnScope n_Prices___call__ p_Prices___call__ (defScope s_Prices___call__) := ⟨rfl, rfl, rfl, by decide +kernel, rfl, by decide +kernel, by decide +kernel⟩
abbrev s_profit : Stmt := topS 20
abbrev n_profit : List Str := ["bakery", "prices", "days", "sold", "_", "thrown"]
abbrev p_profit : List Str := ["bakery", "prices", "days"]
theorem sc_profit : FnScope n_profit p_profit (defScope s_profit) := ⟨rfl, rfl, rfl, by decide +kernel, rfl, by decide +kernel, by decide +kernel⟩
abbrev s_round_profit : Stmt := topS 21
abbrev n_round_profit : List Str := ["bakery", "prices", "sold", "_", "thrown"]
abbrev p_round_profit : List Str := ["bakery", "prices"]
theorem sc_round_profit : FnScope n_round_profit p_round_profit (defScope s_round_profit) := ⟨rfl, rfl, rfl, by decide +kernel, rfl, by decide +kernel, by decide +kernel⟩
abbrev s_first_profit : Stmt := topS 22
abbrev n_first_profit : List Str := ["bakery", "prices", "goal", "days"]
abbrev p_first_profit : List Str := ["bakery", "prices", "goal"]
theorem sc_first_profit : FnScope n_first_profit p_first_profit (defScope s_first_profit) := ⟨rfl, rfl, rfl, by decide +kernel, rfl, by decide +kernel, by decide +kernel⟩
abbrev s__law_start : Stmt := topS 29
abbrev n__law_start : List Str := ["_law_script", "_law_mixed", "_law_cell"]
abbrev p__law_start : List Str := ["_law_script"]
theorem sc__law_start : FnScope n__law_start p__law_start (defScope s__law_start) := ⟨rfl, rfl, rfl, by decide +kernel, rfl, by decide +kernel, by decide +kernel⟩
abbrev s__law_drawn : Stmt := topS 30
abbrev n__law_drawn : List Str := ["_law_state", "_law_count", "_law_result", "_law_cell"]
abbrev p__law_drawn : List Str := ["_law_state", "_law_count"]
theorem sc__law_drawn : FnScope n__law_drawn p__law_drawn (defScope s__law_drawn) := ⟨rfl, rfl, rfl, by decide +kernel, rfl, by decide +kernel, by decide +kernel⟩
abbrev s__law_same : Stmt := topS 31
abbrev n__law_same : List Str := ["_law_result", "_law_expected", "_law_k"]
abbrev p__law_same : List Str := ["_law_result", "_law_expected"]
theorem sc__law_same : FnScope n__law_same p__law_same (defScope s__law_same) := ⟨rfl, rfl, rfl, by decide +kernel, rfl, by decide +kernel, by decide +kernel⟩
abbrev s__law_outcome : Stmt := topS 32
abbrev n__law_outcome : List Str := ["_law_work"]
abbrev p__law_outcome : List Str := ["_law_work"]
theorem sc__law_outcome : FnScope n__law_outcome p__law_outcome (defScope s__law_outcome) := ⟨rfl, rfl, rfl, by decide +kernel, rfl, by decide +kernel, by decide +kernel⟩
abbrev s__law_amounts : Stmt := topS 33
abbrev n__law_amounts : List Str := ["_law_state", "_law_size", "_law_high", "_law_k"]
abbrev p__law_amounts : List Str := ["_law_state", "_law_size", "_law_high"]
theorem sc__law_amounts : FnScope n__law_amounts p__law_amounts (defScope s__law_amounts) := ⟨rfl, rfl, rfl, by decide +kernel, rfl, by decide +kernel, by decide +kernel⟩
abbrev s__law_sold : Stmt := topS 34
abbrev n__law_sold : List Str := ["_law_shelf", "_law_customers", "_law_left", "_law_k", "_law_sale"]
abbrev p__law_sold : List Str := ["_law_shelf", "_law_customers"]
theorem sc__law_sold : FnScope n__law_sold p__law_sold (defScope s__law_sold) := ⟨rfl, rfl, rfl, by decide +kernel, rfl, by decide +kernel, by decide +kernel⟩
abbrev s__law_closed : Stmt := topS 35
abbrev n__law_closed : List Str := ["_law_shelf", "_law_life", "_law_old", "_law_row"]
abbrev p__law_closed : List Str := ["_law_shelf", "_law_life"]
theorem sc__law_closed : FnScope n__law_closed p__law_closed (defScope s__law_closed) := ⟨rfl, rfl, rfl, by decide +kernel, rfl, by decide +kernel, by decide +kernel⟩
abbrev s_law : Stmt := topS 36
abbrev n_law : List Str := ["_law_script", "_law_state", "_law_turn", "_law_high", "_law_size", "_law_bakes", "_law_demands", "_law_life", "_law_cents", "_law_shelf", "_law_sums", "_law_day", "_law_sale", "_law_gain", "_law_goal", "_law_good", "_law_found", "_law_first", "_law_many", "_law_grown", "_law_works", "_law_bakery", "_law_prices", "_law_k", "_law_days", "_law_work"]
abbrev p_law : List Str := ["_law_script"]
theorem sc_law : FnScope n_law p_law (defScope s_law) := ⟨rfl, rfl, rfl, by decide +kernel, rfl, by decide +kernel, by decide +kernel⟩
structure Ad where
  c_Course : Addr
  c_Prices : Addr
  c_Bakery : Addr
  mc_Course : Value
  mc_Prices : Value
  mc_Bakery : Value
  pr_Bakery_bakes : Addr
  pr_Bakery_settled_day : Addr
  pr_Bakery_long_run : Addr
  pr_Prices_cents : Addr
  t_MOST_LOAVES : Tok
  t_LAST_DAY : Tok
  t_MOST_CENTS : Tok
  t_MOST_PROFIT_DAYS : Tok
  t_MOST_GOAL : Tok
  f_count_keepable : Addr
  d_count_keepable : FuncData
  f_sum_repeated : Addr
  d_sum_repeated : FuncData
  f_Course___init__ : Addr
  d_Course___init__ : FuncData
  f_Course_stock_at : Addr
  d_Course_stock_at : FuncData
  f_Course_sales_before : Addr
  d_Course_sales_before : FuncData
  f_Course_find_settled : Addr
  d_Course_find_settled : FuncData
  f_Course_sum_settled_round : Addr
  d_Course_sum_settled_round : FuncData
  f_Course__play_round : Addr
  d_Course__play_round : FuncData
  f_Course__stocks_in : Addr
  d_Course__stocks_in : FuncData
  f_Course__misses_in : Addr
  d_Course__misses_in : FuncData
  f_Course__count_growing : Addr
  d_Course__count_growing : FuncData
  f_check_number : Addr
  d_check_number : FuncData
  f_check_amounts : Addr
  d_check_amounts : FuncData
  f_check_life : Addr
  d_check_life : FuncData
  f_check_bakery : Addr
  d_check_bakery : FuncData
  f_Bakery___init__ : Addr
  d_Bakery___init__ : FuncData
  f_Bakery_bakes : Addr
  d_Bakery_bakes : FuncData
  f_Bakery_settled_day : Addr
  d_Bakery_settled_day : FuncData
  f_Bakery_long_run : Addr
  d_Bakery_long_run : FuncData
  f_Bakery_totals : Addr
  d_Bakery_totals : FuncData
  f_check_price : Addr
  d_check_price : FuncData
  f_Prices___init__ : Addr
  d_Prices___init__ : FuncData
  f_Prices_cents : Addr
  d_Prices_cents : FuncData
  f_Prices___call__ : Addr
  d_Prices___call__ : FuncData
  f_profit : Addr
  d_profit : FuncData
  f_round_profit : Addr
  d_round_profit : FuncData
  f_first_profit : Addr
  d_first_profit : FuncData
  f__law_start : Addr
  d__law_start : FuncData
  f__law_drawn : Addr
  d__law_drawn : FuncData
  f__law_same : Addr
  d__law_same : FuncData
  f__law_outcome : Addr
  d__law_outcome : FuncData
  f__law_amounts : Addr
  d__law_amounts : FuncData
  f__law_sold : Addr
  d__law_sold : FuncData
  f__law_closed : Addr
  d__law_closed : FuncData
  f_law : Addr
  d_law : FuncData
  k_law : Addr
  tb_law : Addr
  P : Program
  c_LoafError : Addr
  c_InvalidNumber : Addr
structure Txt (K : PySem.W.Frag) (mg : Str → Option Value) (Z : Ad) : Prop where
  cl_Course : Cls K Z.c_Course
  g_Course : mg "Course" = some (.ref Z.c_Course)
  mk_Course : Mk K Z.c_Course Z.f_Course___init__
  na_Course__bakes : NoAttr K Z.c_Course "_bakes"
  na_Course__demands : NoAttr K Z.c_Course "_demands"
  na_Course__keepable : NoAttr K Z.c_Course "_keepable"
  na_Course__gain : NoAttr K Z.c_Course "_gain"
  na_Course__first_end : NoAttr K Z.c_Course "_first_end"
  na_Course__full_end : NoAttr K Z.c_Course "_full_end"
  na_Course__first_misses : NoAttr K Z.c_Course "_first_misses"
  na_Course__later_misses : NoAttr K Z.c_Course "_later_misses"
  cl_Prices : Cls K Z.c_Prices
  g_Prices : mg "Prices" = some (.ref Z.c_Prices)
  mk_Prices : Mk K Z.c_Prices Z.f_Prices___init__
  na_Prices__cents : NoAttr K Z.c_Prices "_cents"
  cl_Bakery : Cls K Z.c_Bakery
  g_Bakery : mg "Bakery" = some (.ref Z.c_Bakery)
  mk_Bakery : Mk K Z.c_Bakery Z.f_Bakery___init__
  na_Bakery__bakes : NoAttr K Z.c_Bakery "_bakes"
  na_Bakery__demands : NoAttr K Z.c_Bakery "_demands"
  na_Bakery__life : NoAttr K Z.c_Bakery "_life"
  na_Bakery_course : NoAttr K Z.c_Bakery "course"
  na_Bakery__settled_day : NoAttr K Z.c_Bakery "_settled_day"
  na_Bakery__long_run : NoAttr K Z.c_Bakery "_long_run"
  cv_Bakery_MAX_DAYS : ClX.CRead K Z.c_Bakery Z.mc_Bakery ∧ ∃ u, ClX.CVal K Z.c_Bakery Z.mc_Bakery "MAX_DAYS" (.int 24) u
  cv_Bakery_MAX_LIFE : ClX.CRead K Z.c_Bakery Z.mc_Bakery ∧ ∃ u, ClX.CVal K Z.c_Bakery Z.mc_Bakery "MAX_LIFE" (.int 30) u
  g_MOST_LOAVES : mg "MOST_LOAVES" = some (.int 1000000000 Z.t_MOST_LOAVES)
  g_LAST_DAY : mg "LAST_DAY" = some (.int 1000000000000000000 Z.t_LAST_DAY)
  g_MOST_CENTS : mg "MOST_CENTS" = some (.int 1000000 Z.t_MOST_CENTS)
  g_MOST_PROFIT_DAYS : mg "MOST_PROFIT_DAYS" = some (.int 1000 Z.t_MOST_PROFIT_DAYS)
  g_MOST_GOAL : mg "MOST_GOAL" = some (.int 1000000000000000000 Z.t_MOST_GOAL)
  b_bool : mg "bool" = none
  b_divmod : mg "divmod" = none
  b_enumerate : mg "enumerate" = none
  b_int : mg "int" = none
  b_isinstance : mg "isinstance" = none
  b_len : mg "len" = none
  b_list : mg "list" = none
  b_max : mg "max" = none
  b_min : mg "min" = none
  b_range : mg "range" = none
  b_sum : mg "sum" = none
  b_super : mg "super" = none
  b_tuple : mg "tuple" = none
  b_zip : mg "zip" = none
  g_LoafError : mg "LoafError" = some (.ref Z.c_LoafError)
  g_InvalidNumber : mg "InvalidNumber" = some (.ref Z.c_InvalidNumber)
  xp_InvalidNumber : PySem.W.excIn K Z.c_InvalidNumber [.type "ValueError", .type "Exception", .type "BaseException", .type "object"] "ValueError.__new__" = true
  xq_InvalidNumber : PySem.W.keepIn K (.ref Z.c_InvalidNumber) = true
  xb_InvalidNumber : PySem.W.subIn K (.ref Z.c_InvalidNumber) (.type "BaseException") = some true
  xy_InvalidNumber : PySem.W.typeIn K (.ref Z.c_InvalidNumber) = some (.type "type")
  xI_InvalidNumber : ExI K Z.c_InvalidNumber
  xm_InvalidNumber : PySem.W.exmOne K (.ref Z.c_InvalidNumber) (.ref Z.c_LoafError) = some true
  xv_InvalidNumber : PySem.W.kitOne K (.ref Z.c_InvalidNumber) (.type "ValueError") = some true
  xk_InvalidNumber_InvalidNumber : PySem.W.kitOne K (.ref Z.c_InvalidNumber) (.ref Z.c_InvalidNumber) = some true
  xn_InvalidNumber_InvalidNumber : PySem.W.exmOne K (.ref Z.c_InvalidNumber) (.ref Z.c_InvalidNumber) = some true
  co_Prices : StX.CallO K Z.c_Prices Z.f_Prices___call__
  F_count_keepable : Fun K "count_keepable" "count_keepable" s_count_keepable Z.f_count_keepable Z.d_count_keepable
  b_count_keepable : Binds K Z.d_count_keepable p_count_keepable []
  g_count_keepable : mg "count_keepable" = some (.ref Z.f_count_keepable)
  F_sum_repeated : Fun K "sum_repeated" "sum_repeated" s_sum_repeated Z.f_sum_repeated Z.d_sum_repeated
  b_sum_repeated : Binds K Z.d_sum_repeated p_sum_repeated []
  g_sum_repeated : mg "sum_repeated" = some (.ref Z.f_sum_repeated)
  F_Course___init__ : Fun K "__init__" "Course.__init__" s_Course___init__ Z.f_Course___init__ Z.d_Course___init__
  b_Course___init__ : Binds K Z.d_Course___init__ p_Course___init__ []
  F_Course_stock_at : Fun K "stock_at" "Course.stock_at" s_Course_stock_at Z.f_Course_stock_at Z.d_Course_stock_at
  b_Course_stock_at : Binds K Z.d_Course_stock_at p_Course_stock_at []
  m_Course_stock_at : Meth K Z.c_Course "stock_at" Z.f_Course_stock_at
  F_Course_sales_before : Fun K "sales_before" "Course.sales_before" s_Course_sales_before Z.f_Course_sales_before Z.d_Course_sales_before
  b_Course_sales_before : Binds K Z.d_Course_sales_before p_Course_sales_before []
  m_Course_sales_before : Meth K Z.c_Course "sales_before" Z.f_Course_sales_before
  F_Course_find_settled : Fun K "find_settled" "Course.find_settled" s_Course_find_settled Z.f_Course_find_settled Z.d_Course_find_settled
  b_Course_find_settled : Binds K Z.d_Course_find_settled p_Course_find_settled []
  m_Course_find_settled : Meth K Z.c_Course "find_settled" Z.f_Course_find_settled
  F_Course_sum_settled_round : Fun K "sum_settled_round" "Course.sum_settled_round" s_Course_sum_settled_round Z.f_Course_sum_settled_round Z.d_Course_sum_settled_round
  b_Course_sum_settled_round : Binds K Z.d_Course_sum_settled_round p_Course_sum_settled_round []
  m_Course_sum_settled_round : Meth K Z.c_Course "sum_settled_round" Z.f_Course_sum_settled_round
  F_Course__play_round : Fun K "_play_round" "Course._play_round" s_Course__play_round Z.f_Course__play_round Z.d_Course__play_round
  b_Course__play_round : Binds K Z.d_Course__play_round p_Course__play_round []
  m_Course__play_round : Meth K Z.c_Course "_play_round" Z.f_Course__play_round
  F_Course__stocks_in : Fun K "_stocks_in" "Course._stocks_in" s_Course__stocks_in Z.f_Course__stocks_in Z.d_Course__stocks_in
  b_Course__stocks_in : Binds K Z.d_Course__stocks_in p_Course__stocks_in []
  m_Course__stocks_in : Meth K Z.c_Course "_stocks_in" Z.f_Course__stocks_in
  F_Course__misses_in : Fun K "_misses_in" "Course._misses_in" s_Course__misses_in Z.f_Course__misses_in Z.d_Course__misses_in
  b_Course__misses_in : Binds K Z.d_Course__misses_in p_Course__misses_in []
  m_Course__misses_in : Meth K Z.c_Course "_misses_in" Z.f_Course__misses_in
  F_Course__count_growing : Fun K "_count_growing" "Course._count_growing" s_Course__count_growing Z.f_Course__count_growing Z.d_Course__count_growing
  b_Course__count_growing : Binds K Z.d_Course__count_growing p_Course__count_growing []
  m_Course__count_growing : Meth K Z.c_Course "_count_growing" Z.f_Course__count_growing
  F_check_number : Fun K "check_number" "check_number" s_check_number Z.f_check_number Z.d_check_number
  b_check_number : Binds K Z.d_check_number p_check_number []
  g_check_number : mg "check_number" = some (.ref Z.f_check_number)
  F_check_amounts : Fun K "check_amounts" "check_amounts" s_check_amounts Z.f_check_amounts Z.d_check_amounts
  b_check_amounts : Binds K Z.d_check_amounts p_check_amounts []
  g_check_amounts : mg "check_amounts" = some (.ref Z.f_check_amounts)
  F_check_life : Fun K "check_life" "check_life" s_check_life Z.f_check_life Z.d_check_life
  b_check_life : Binds K Z.d_check_life p_check_life []
  g_check_life : mg "check_life" = some (.ref Z.f_check_life)
  F_check_bakery : Fun K "check_bakery" "check_bakery" s_check_bakery Z.f_check_bakery Z.d_check_bakery
  b_check_bakery : Binds K Z.d_check_bakery p_check_bakery []
  g_check_bakery : mg "check_bakery" = some (.ref Z.f_check_bakery)
  F_Bakery___init__ : Fun K "__init__" "Bakery.__init__" s_Bakery___init__ Z.f_Bakery___init__ Z.d_Bakery___init__
  b_Bakery___init__ : Binds K Z.d_Bakery___init__ p_Bakery___init__ []
  F_Bakery_bakes : Fun K "bakes" "Bakery.bakes" s_Bakery_bakes Z.f_Bakery_bakes Z.d_Bakery_bakes
  b_Bakery_bakes : Binds K Z.d_Bakery_bakes p_Bakery_bakes []
  pp_Bakery_bakes : PropOf K Z.c_Bakery "bakes" Z.pr_Bakery_bakes Z.f_Bakery_bakes
  F_Bakery_settled_day : Fun K "settled_day" "Bakery.settled_day" s_Bakery_settled_day Z.f_Bakery_settled_day Z.d_Bakery_settled_day
  b_Bakery_settled_day : Binds K Z.d_Bakery_settled_day p_Bakery_settled_day []
  pp_Bakery_settled_day : PropOf K Z.c_Bakery "settled_day" Z.pr_Bakery_settled_day Z.f_Bakery_settled_day
  F_Bakery_long_run : Fun K "long_run" "Bakery.long_run" s_Bakery_long_run Z.f_Bakery_long_run Z.d_Bakery_long_run
  b_Bakery_long_run : Binds K Z.d_Bakery_long_run p_Bakery_long_run []
  pp_Bakery_long_run : PropOf K Z.c_Bakery "long_run" Z.pr_Bakery_long_run Z.f_Bakery_long_run
  F_Bakery_totals : Fun K "totals" "Bakery.totals" s_Bakery_totals Z.f_Bakery_totals Z.d_Bakery_totals
  b_Bakery_totals : Binds K Z.d_Bakery_totals p_Bakery_totals []
  m_Bakery_totals : Meth K Z.c_Bakery "totals" Z.f_Bakery_totals
  F_check_price : Fun K "check_price" "check_price" s_check_price Z.f_check_price Z.d_check_price
  b_check_price : Binds K Z.d_check_price p_check_price []
  g_check_price : mg "check_price" = some (.ref Z.f_check_price)
  F_Prices___init__ : Fun K "__init__" "Prices.__init__" s_Prices___init__ Z.f_Prices___init__ Z.d_Prices___init__
  b_Prices___init__ : Binds K Z.d_Prices___init__ p_Prices___init__ []
  F_Prices_cents : Fun K "cents" "Prices.cents" s_Prices_cents Z.f_Prices_cents Z.d_Prices_cents
  b_Prices_cents : Binds K Z.d_Prices_cents p_Prices_cents []
  pp_Prices_cents : PropOf K Z.c_Prices "cents" Z.pr_Prices_cents Z.f_Prices_cents
  F_Prices___call__ : Fun K "__call__" "Prices.__call__" s_Prices___call__ Z.f_Prices___call__ Z.d_Prices___call__
  b_Prices___call__ : Binds K Z.d_Prices___call__ p_Prices___call__ []
  m_Prices___call__ : Meth K Z.c_Prices "__call__" Z.f_Prices___call__
  F_profit : Fun K "profit" "profit" s_profit Z.f_profit Z.d_profit
  b_profit : Binds K Z.d_profit p_profit []
  g_profit : mg "profit" = some (.ref Z.f_profit)
  F_round_profit : Fun K "round_profit" "round_profit" s_round_profit Z.f_round_profit Z.d_round_profit
  b_round_profit : Binds K Z.d_round_profit p_round_profit []
  g_round_profit : mg "round_profit" = some (.ref Z.f_round_profit)
  F_first_profit : Fun K "first_profit" "first_profit" s_first_profit Z.f_first_profit Z.d_first_profit
  b_first_profit : Binds K Z.d_first_profit p_first_profit []
  g_first_profit : mg "first_profit" = some (.ref Z.f_first_profit)
  F__law_start : Fun K "_law_start" "_law_start" s__law_start Z.f__law_start Z.d__law_start
  b__law_start : Binds K Z.d__law_start p__law_start []
  g__law_start : mg "_law_start" = some (.ref Z.f__law_start)
  F__law_drawn : Fun K "_law_drawn" "_law_drawn" s__law_drawn Z.f__law_drawn Z.d__law_drawn
  b__law_drawn : Binds K Z.d__law_drawn p__law_drawn []
  g__law_drawn : mg "_law_drawn" = some (.ref Z.f__law_drawn)
  F__law_same : Fun K "_law_same" "_law_same" s__law_same Z.f__law_same Z.d__law_same
  b__law_same : Binds K Z.d__law_same p__law_same []
  g__law_same : mg "_law_same" = some (.ref Z.f__law_same)
  F__law_outcome : Fun K "_law_outcome" "_law_outcome" s__law_outcome Z.f__law_outcome Z.d__law_outcome
  b__law_outcome : Binds K Z.d__law_outcome p__law_outcome []
  g__law_outcome : mg "_law_outcome" = some (.ref Z.f__law_outcome)
  F__law_amounts : Fun K "_law_amounts" "_law_amounts" s__law_amounts Z.f__law_amounts Z.d__law_amounts
  b__law_amounts : Binds K Z.d__law_amounts p__law_amounts []
  g__law_amounts : mg "_law_amounts" = some (.ref Z.f__law_amounts)
  F__law_sold : Fun K "_law_sold" "_law_sold" s__law_sold Z.f__law_sold Z.d__law_sold
  b__law_sold : Binds K Z.d__law_sold p__law_sold []
  g__law_sold : mg "_law_sold" = some (.ref Z.f__law_sold)
  F__law_closed : Fun K "_law_closed" "_law_closed" s__law_closed Z.f__law_closed Z.d__law_closed
  b__law_closed : Binds K Z.d__law_closed p__law_closed []
  g__law_closed : mg "_law_closed" = some (.ref Z.f__law_closed)
  F_law : Fun K "law" "law" s_law Z.f_law Z.d_law
  b_law : Binds K Z.d_law p_law []
  FC_law : FunC K "law" "law" s_law Z.f_law Z.d_law Z.k_law
  g_law : mg "law" = some (.ref Z.f_law)
end Sw
namespace Sw
open PySem PySem.Spec PyProof.Rows L2 Evl
/-! ### the mirror: what the package computes -/
def keepAt (bs : List Int) (life : Int) (i : Nat) : Int := ((List.range (life - 1).toNat).map fun (age : Nat) => bs.getD ((((i : Int) - (age : Int)) % (bs.length : Int)).toNat) 0).sum
def keepL (bs : List Int) (life : Int) : List Int := (List.range bs.length).map (keepAt bs life)
def sumRep (am : List Int) (days : Int) : Int := days / (am.length : Int) * am.sum + (am.take (days % (am.length : Int)).toNat).sum
def stp (s b d k : Int) : Int := min (max 0 (s + b - d)) k
def stkAt (bs ds ks : List Int) (s : Int) : Nat → Int
  | 0 => s
  | i + 1 => stp (stkAt bs ds ks s i) (bs.getD i 0) (ds.getD i 0) (ks.getD i 0)
def stkL (bs ds ks : List Int) (s : Int) : List Int := (List.range (bs.length + 1)).map (stkAt bs ds ks s)
/-! ### an instance's fields, for the walk -/
/-- the instance at a has the field, and its class lets it be read -/
structure FlK (K : PySem.W.Frag) (H : Hp) (a C : Addr) (f : Str) (v : V) : Prop where
  fl : Fl H a C f v
  cl : Cls K C
  na : NoAttr K C f
section
variable {K : PySem.W.Frag} {σ : L2.St} {H H' : Hp} {ta tb te tx : TE} {x y z v : V} {a C dx : Addr} {fs : List (Str × V)} {f m : Str}
theorem FlK.mono (e : Ex H H') (h : FlK K H a C f v) : FlK K H' a C f v := ⟨h.fl.mono e, h.cl, h.na⟩
theorem ev_fldK (h : Ev ta σ H (.ref a)) (hf : FlK K H a C f v) : Ev (tFld K ta f) σ H v := ev_fld h hf.fl hf.cl hf.na
theorem atI_mapI {ns : List Int} {i : Int} (h0 : 0 ≤ i) (h1 : i < ns.length) : atI (ns.map V.int) i = some (.int (ns.getD i.toNat 0)) := by
  rw [atI_at (d := V.int 0) h0 (by rw [List.length_map]; exact h1)]
  simp [List.getD]
theorem rng_map {n : Nat} (f : Nat → Int) : (List.range n).map (fun i => V.int (f i)) = ((List.range n).map f).map V.int := by
  rw [List.map_map]; rfl
end
theorem wide_ok {i j : Int} (h : j.natAbs < 2 ^ 60) : CMul i j := .inr (by omega)
local macro_rules | `(tactic| walk_at "ev") => `(tactic| first
  | exact ev_c
  | exact ev_var rfl
  | ((with_reducible show Ev (tCB rMax2 _) _ _ _); exact ev_maxi (by walk_at "ev") (by walk_at "ev"))
  | ((with_reducible show Ev (tCB rMn _) _ _ _); exact ev_min2 (by walk_at "ev") (by walk_at "ev"))
  | ((with_reducible show Ev (tUn _ _) _ _ _); exact ev_un (by walk_at "ev") ru_neg)
  | ((with_reducible show Ev (tFld _ _ _) _ _ _); exact ev_fldK (by walk_at "ev") (by assumption))
  | ((with_reducible show Ev (tOp (rI0 _) _ _) _ _ _); exact ev_op (by walk_at "ev") (by walk_at "ev") rv_I0)
  | ((with_reducible show Ev (tOp rEq _ _) _ _ _); exact ev_op (by walk_at "ev") (by walk_at "ev") (rv_eq rfl))
  | ((with_reducible show Ev (tOp rNe _ _) _ _ _); exact ev_op (by walk_at "ev") (by walk_at "ev") (rv_ne rfl)))

variable {P : Program} {w : World} {K : PySem.W.Frag} {mg : Str → Option Value} {base : Heap} {Z : Ad}
def sp_count_keepable (K : PySem.W.Frag) : Sp := fun vs H Q _ => ∃ (a : Addr) (bs : List Int) (life : Int), vs = [.ref a, .int life] ∧ SqT K H a (bs.map V.int) ∧ 0 < bs.length ∧ bs.length ≤ 24 ∧ 1 ≤ life ∧ life ≤ 30 ∧
  RetL ((keepL bs life).map V.int) H Q
theorem ok_count_keepable (T : Txt K mg Z) : FnOk P w K mg base CX0 1 Z.f_count_keepable Z.d_count_keepable p_count_keepable (sp_count_keepable K) := by
  refine T.F_count_keepable.ok sc_count_keepable (fun vs H Q E h => ?_) (fun cdv Ar outer s H vs Q E hr h => ?_)
  · obtain ⟨a, bs, life, rfl, _⟩ := h
    rfl
  · obtain ⟨a, bs, life, rfl, hS, h0, h1, h2, h3, k⟩ := h
    refine ⟨_, (pss_cons (ps_set (i := 2) sc_count_keepable.nd rfl (Or.inr rfl) (pe_callB (r := rLenS K) (call_len_seq) (by rfl) T.b_len boot_len (pa_cons (pv 0) pa_nil)))
      (pss_one (ps_ret (pe_lc (own := [("at", 3)]) rfl sc_count_keepable.nd (pi_range1 (by rfl) T.b_range (pa_cons (pv 2) pa_nil)) (blkOk_by (own := [("at", 3)]) (N := n_count_keepable) (sc := defScope s_count_keepable) (scope := { kind := PySem.ScopeKind.function, names := [ (PySem.Str.ofString ".0", PySem.NameKind.local), (PySem.Str.ofString "at", PySem.NameKind.cell), (PySem.Str.ofString "sum", PySem.NameKind.globalImplicit), (PySem.Str.ofString "range", PySem.NameKind.globalImplicit), (PySem.Str.ofString "bakes", PySem.NameKind.free), (PySem.Str.ofString "length", PySem.NameKind.free), (PySem.Str.ofString "life", PySem.NameKind.free)], isGenerator := false, isCoroutine := false, more := [] : PySem.Scope }) (by decide +kernel)) (fun _ _ _ _ _ => (pg_name (i := 3) sc_count_keepable.nd rfl (Or.inr rfl))) (fun _ _ _ _ _ => pts_nil) (fun _ _ _ _ _ => (pe_callB (r := rSum K) (cr_sum rfl) (by rfl) T.b_sum boot_sum (pa_cons (pe_lc (own := [("age", 4)]) rfl sc_count_keepable.nd (pi_range1 (by rfl) T.b_range (pa_cons (pe_op op_sub (pv 1) pe_int) pa_nil)) (blkOk_by (own := [("age", 4)]) (N := n_count_keepable) (sc := { kind := PySem.ScopeKind.function, names := [ (PySem.Str.ofString ".0", PySem.NameKind.local), (PySem.Str.ofString "at", PySem.NameKind.cell), (PySem.Str.ofString "sum", PySem.NameKind.globalImplicit), (PySem.Str.ofString "range", PySem.NameKind.globalImplicit), (PySem.Str.ofString "bakes", PySem.NameKind.cell), (PySem.Str.ofString "length", PySem.NameKind.cell), (PySem.Str.ofString "life", PySem.NameKind.cell)], isGenerator := false, isCoroutine := false, more := [] : PySem.Scope }) (scope := { kind := PySem.ScopeKind.function, names := [ (PySem.Str.ofString ".0", PySem.NameKind.local), (PySem.Str.ofString "age", PySem.NameKind.local), (PySem.Str.ofString "at", PySem.NameKind.free), (PySem.Str.ofString "bakes", PySem.NameKind.free), (PySem.Str.ofString "length", PySem.NameKind.free)], isGenerator := false, isCoroutine := false, more := [] : PySem.Scope }) (by decide +kernel)) (fun _ _ _ _ _ => (pg_name (i := 4) sc_count_keepable.nd rfl (Or.inl rfl))) (fun _ _ _ _ _ => pts_nil) (fun _ _ _ _ _ => (pe_ix (r := rIxT K) ix_tup (pv 0) (pe_op op_mod (pe_op op_sub (pv 3) (pv 4)) (pv 2)) (fun _ _ => rfl)))) pa_nil))))))), ?_⟩
    refine q_asg (ev_lenT (ev_var rfl) hS) fun H1 e1 => ?_
    have hS1 := ex_t e1 hS
    have hl : ((bs.map V.int).length : Int) = (bs.length : Int) := by rw [List.length_map]
    rw [hl]
    refine s_retL (xs := (keepL bs life).map V.int) ?_ fun p H2 hp e2 h2 => k p H2 (fresh_back e1 hp) (e1.trans e2) h2
    unfold keepL
    rw [← rng_map]
    refine el_lcR (n := (bs.length : Int)) (fun i => V.int (keepAt bs life i)) (ea_cons (ev_var rfl) ea_nil) ⟨by omega, by omega⟩ (fun _ => rfl) fun i H3 e3 hi => ?_
    unfold keepAt
    refine ev_sumN ?_
    rw [← rng_map]
    refine el_lcR (n := life - 1) _ (ea_cons (by walk_at "ev") ea_nil) ⟨by omega, by omega⟩ (fun _ => rfl) fun j H4 e4 hj => ?_
    have hm0 : 0 ≤ ((i : Int) - (j : Int)) % (bs.length : Int) := Int.emod_nonneg _ (by omega)
    have hm1 : ((i : Int) - (j : Int)) % (bs.length : Int) < (bs.length : Int) := Int.emod_lt_of_pos _ (by omega)
    exact ev_ixT (ev_var rfl) (ex_t (e3.trans e4) hS1) (ev_op (by walk_at "ev") (by walk_at "ev") (rv_I (by show (0 : Int) < _; omega))) (atI_mapI hm0 hm1)
def sp_sum_repeated (K : PySem.W.Frag) : Sp := fun vs H Q _ => ∃ (a : Addr) (am : List Int) (days : Int), vs = [.ref a, .int days] ∧ (SqT K H a (am.map V.int) ∨ SqL K H a (am.map V.int)) ∧ 0 < am.length ∧ am.length ≤ 24 ∧ am.sum.natAbs ≤ 2 ^ 40 ∧
  RetV (.int (sumRep am days)) H Q
theorem ok_sum_repeated (T : Txt K mg Z) : FnOk P w K mg base CX0 1 Z.f_sum_repeated Z.d_sum_repeated p_sum_repeated (sp_sum_repeated K) := by
  refine T.F_sum_repeated.ok sc_sum_repeated (fun vs H Q E h => ?_) (fun cdv Ar outer s H vs Q E hr h => ?_)
  · obtain ⟨a, am, days, rfl, _⟩ := h
    rfl
  · obtain ⟨a, am, days, rfl, hS, h0, h1, h2, k⟩ := h
    have hl : ((am.map V.int).length : Int) = (am.length : Int) := by rw [List.length_map]
    have hd : CDiv days (am.length : Int) := ⟨by omega, by omega⟩
    have hr0 : 0 ≤ days % (am.length : Int) := Int.emod_nonneg _ (by omega)
    have hr : days % (am.length : Int) = (((days % (am.length : Int)).toNat : Nat) : Int) := by omega
    rcases hS with hS | hS
    · refine ⟨_, (pss_cons (ps_asg (pe_callB (r := rDm) (call_divmod) (by rfl) T.b_divmod boot_divmod (pa_cons (pv 1) (pa_cons (pe_callB (r := rLenS K) (call_len_seq) (by rfl) T.b_len boot_len (pa_cons (pv 0) pa_nil)) pa_nil))) (by exact (pg_tupK K (n := 2) rfl rfl (pgs_cons (pg_name (i := 2) sc_sum_repeated.nd rfl (Or.inl rfl)) (pgs_cons (pg_name (i := 3) sc_sum_repeated.nd rfl (Or.inl rfl)) pgs_nil)))))
      (pss_one (ps_ret (pe_op op_add (pe_op op_mul (pv 2) (pe_callB (r := rSumT K) (cr_sumT rfl) (by rfl) T.b_sum boot_sum (pa_cons (pv 0) pa_nil))) (pe_callB (r := rSumT K) (cr_sumT rfl) (by rfl) T.b_sum boot_sum (pa_cons (pe_slice (r := rSlA K) sl_tupA (pv 0) po_none (po_some (pv 3))) pa_nil)))))), ?_⟩
      refine q_pair (eu_dm (ev_var rfl) (Ev.int_eq (ev_lenT (ev_var rfl) hS) hl) hd) fun H1 e1 => ?_
      refine s_ret ?_ fun H2 e2 => k H2 (e1.trans e2)
      refine ev_op (ev_op (ev_var rfl) (ev_sumT (ev_var rfl) (ex_t e1 hS)) (rv_I (wide_ok ?_))) (ev_sumW (ns := am.take (days % (am.length : Int)).toNat) ?_) rv_I0
      · omega
      · rw [List.map_take]
        exact ew_take (ew_of (ev_var rfl) (ex_t e1 hS)) (Ev.int_eq (ev_var rfl) hr)
    · refine ⟨_, (pss_cons (ps_asg (pe_callB (r := rDm) (call_divmod) (by rfl) T.b_divmod boot_divmod (pa_cons (pv 1) (pa_cons (pe_callB (r := rLenS K) (call_len_seq) (by rfl) T.b_len boot_len (pa_cons (pv 0) pa_nil)) pa_nil))) (by exact (pg_tupK K (n := 2) rfl rfl (pgs_cons (pg_name (i := 2) sc_sum_repeated.nd rfl (Or.inl rfl)) (pgs_cons (pg_name (i := 3) sc_sum_repeated.nd rfl (Or.inl rfl)) pgs_nil)))))
      (pss_one (ps_ret (pe_op op_add (pe_op op_mul (pv 2) (pe_callB (r := rSum K) (cr_sum rfl) (by rfl) T.b_sum boot_sum (pa_cons (pv 0) pa_nil))) (pe_callB (r := rSum K) (cr_sum rfl) (by rfl) T.b_sum boot_sum (pa_cons (pe_slice (r := rSlL K) sl_list (pv 0) po_none (po_some (pv 3))) pa_nil)))))), ?_⟩
      refine q_pair (eu_dm (ev_var rfl) (Ev.int_eq (ev_len (ev_var rfl) hS) hl) hd) fun H1 e1 => ?_
      refine s_ret ?_ fun H2 e2 => k H2 (e1.trans e2)
      refine ev_op (ev_op (ev_var rfl) (ev_sumL (ev_var rfl) (ex_l e1 hS)) (rv_I (wide_ok ?_))) (ev_sumM (ns := am.take (days % (am.length : Int)).toNat) ?_) rv_I0
      · omega
      · rw [List.map_take]
        exact EvL.m (el_take (em_of (ev_var rfl) (ex_l e1 hS)) (Ev.int_eq (ev_var rfl) hr))
end Sw
namespace Sw
open PySem PySem.Spec PyProof.Rows L2 Evl
local macro_rules | `(tactic| walk_at "ev") => `(tactic| first
  | exact ev_c
  | exact ev_var rfl
  | ((with_reducible show Ev (tCB rMax2 _) _ _ _); exact ev_maxi (by walk_at "ev") (by walk_at "ev"))
  | ((with_reducible show Ev (tCB rMn _) _ _ _); exact ev_min2 (by walk_at "ev") (by walk_at "ev"))
  | ((with_reducible show Ev (tUn _ _) _ _ _); exact ev_un (by walk_at "ev") ru_neg)
  | ((with_reducible show Ev (tFld _ _ _) _ _ _); exact ev_fldK (by walk_at "ev") (by assumption))
  | ((with_reducible show Ev (tOp (rI0 _) _ _) _ _ _); exact ev_op (by walk_at "ev") (by walk_at "ev") rv_I0)
  | ((with_reducible show Ev (tOp rEq _ _) _ _ _); exact ev_op (by walk_at "ev") (by walk_at "ev") (rv_eq rfl))
  | ((with_reducible show Ev (tOp rNe _ _) _ _ _); exact ev_op (by walk_at "ev") (by walk_at "ev") (rv_ne rfl)))

/-! ### the course: what its object holds -/
def start1 (gain first full : Int) (r : Int) : Int := if r = 0 then 0 else min full (first + (r - 1) * gain)
def missL (ds bs st : List Int) : List Int := (List.range ds.length).map fun i => max 0 (ds.getD i 0 - st.getD i 0 - bs.getD i 0)
def growing (gain first full : Int) : Int := if gain = 0 then 0 else -((first - full) / gain)
/-- bounds of what a bakery is made of -/
structure Good (bs ds : List Int) : Prop where
  n0 : 0 < bs.length
  n1 : bs.length ≤ 24
  ld : ds.length = bs.length
  b0 : ∀ x ∈ bs, 0 ≤ x ∧ x ≤ 1000000000
  d0 : ∀ x ∈ ds, 0 ≤ x ∧ x ≤ 1000000000
structure PR (K : PySem.W.Frag) (Z : Ad) (H : Hp) (c : Addr) (bs ds ks : List Int) (tb td tk : Addr) : Prop where
  fb : FlK K H c Z.c_Course "_bakes" (.ref tb)
  hb : SqT K H tb (bs.map V.int)
  fd : FlK K H c Z.c_Course "_demands" (.ref td)
  hd : SqT K H td (ds.map V.int)
  fk : FlK K H c Z.c_Course "_keepable" (.ref tk)
  hk : SqL K H tk (ks.map V.int)
  nf : NoF H c Z.c_Course "_play_round"
  gd : Good bs ds
  kl : ks.length = bs.length
structure SR (K : PySem.W.Frag) (Z : Ad) (H : Hp) (c : Addr) (bs ds ks : List Int) (tb td tk : Addr) (gain first full : Int) : Prop where
  pr : PR K Z H c bs ds ks tb td tk
  fg : FlK K H c Z.c_Course "_gain" (.int gain)
  ff : FlK K H c Z.c_Course "_first_end" (.int first)
  fu : FlK K H c Z.c_Course "_full_end" (.int full)
  nf : NoF H c Z.c_Course "_stocks_in"
  gb : gain.natAbs < 2 ^ 60
theorem PR.mono {K : PySem.W.Frag} {Z : Ad} {H H' : Hp} {c : Addr} {bs ds ks : List Int} {tb td tk : Addr} (e : Ex H H') (h : PR K Z H c bs ds ks tb td tk) : PR K Z H' c bs ds ks tb td tk :=
  ⟨h.fb.mono e, ex_t e h.hb, h.fd.mono e, ex_t e h.hd, h.fk.mono e, ex_l e h.hk, h.nf.mono e, h.gd, h.kl⟩
theorem SR.mono {K : PySem.W.Frag} {Z : Ad} {H H' : Hp} {c : Addr} {bs ds ks : List Int} {tb td tk : Addr} {gain first full : Int} (e : Ex H H') (h : SR K Z H c bs ds ks tb td tk gain first full) : SR K Z H' c bs ds ks tb td tk gain first full :=
  ⟨h.pr.mono e, h.fg.mono e, h.ff.mono e, h.fu.mono e, h.nf.mono e, h.gb⟩
theorem stkL_get {bs ds ks : List Int} {s : Int} {i : Nat} (h : i ≤ bs.length) : (stkL bs ds ks s).getD i 0 = stkAt bs ds ks s i := by
  unfold stkL
  simp [List.getD, List.getElem?_map, List.getElem?_range (show i < bs.length + 1 by omega)]
theorem stkL_len {bs ds ks : List Int} {s : Int} : (stkL bs ds ks s).length = bs.length + 1 := by simp [stkL]
theorem atI_last {α : Type} {xs : List α} {x : α} : atI (xs ++ [x]) (-1) = some x := by
  have e : ixN (xs ++ [x]).length (-1) = some xs.length := by
    unfold ixN
    rw [List.length_append, List.length_singleton]
    rw [if_neg (by omega), if_pos (by omega)]
    congr 1
    omega
  unfold atI
  rw [e]
  simp
theorem at_map {ns : List Int} {i : Nat} {x : V} (h : (ns.map V.int)[i]? = some x) : x = .int (ns.getD i 0) ∧ i < ns.length := by
  rw [List.getElem?_map] at h
  cases e : ns[i]? with
  | none => rw [e] at h; cases h
  | some z =>
    rw [e] at h
    have hi := (List.getElem?_eq_some_iff.mp e).1
    refine ⟨?_, hi⟩
    simp [List.getD, e] at h ⊢
    exact h.symm
variable {P : Program} {w : World} {K : PySem.W.Frag} {mg : Str → Option Value} {base : Heap} {Z : Ad}
/-! ### _play_round -/
def sp_play (K : PySem.W.Frag) (Z : Ad) : Sp := fun vs H Q _ => ∃ (c : Addr) (bs ds ks : List Int) (tb td tk : Addr) (s : Int), vs = [.ref c, .int s] ∧ PR K Z H c bs ds ks tb td tk ∧ RetL ((stkL bs ds ks s).map V.int) H Q
theorem ok_Course__play_round (T : Txt K mg Z) : FnOk P w K mg base CX0 1 Z.f_Course__play_round Z.d_Course__play_round p_Course__play_round (sp_play K Z) := by
  refine T.F_Course__play_round.ok sc_Course__play_round (fun vs H Q E h => ?_) (fun cdv Ar outer s H vs Q E hr h => ?_)
  · obtain ⟨c, bs, ds, ks, tb, td, tk, s, rfl, _⟩ := h
    rfl
  · obtain ⟨c, bs, ds, ks, tb, td, tk, s, rfl, hP, k⟩ := h
    have fb := hP.fb
    have fd := hP.fd
    have fk := hP.fk
    have hn := hP.gd.n1
    refine ⟨_, (pss_cons (ps_set (i := 2) sc_Course__play_round.nd rfl (Or.inl rfl) (pe_lst (pa_cons (pv 1) pa_nil)))
      (pss_cons (ps_for PassesOwn.never rfl (pi_zip3 (by rfl) T.b_zip (pa_cons (pe_fldK K rfl (pv 0) rfl) (pa_cons (pe_fldK K rfl (pv 0) rfl) (pa_cons (pe_fldK K rfl (pv 0) rfl) pa_nil)))) (by exact (pg_tupK K (n := 3) rfl rfl (pgs_cons (pg_name (i := 3) sc_Course__play_round.nd rfl (Or.inl rfl)) (pgs_cons (pg_name (i := 4) sc_Course__play_round.nd rfl (Or.inl rfl)) (pgs_cons (pg_name (i := 5) sc_Course__play_round.nd rfl (Or.inl rfl)) pgs_nil))))) (pss_cons (ps_set (i := 6) sc_Course__play_round.nd rfl (Or.inl rfl) (pe_callB (r := rMax2) (call_max2 rfl) (by rfl) T.b_max boot_max (pa_cons pe_int (pa_cons (pe_op op_sub (pe_op op_add (pe_ix (r := rIxL K) ix_list (pv 2) (pe_un un_neg pe_int) (fun _ _ => rfl)) (pv 3)) (pv 4)) pa_nil))))
      (pss_one (ps_expr (pe_bm PySem.F.plainAttrs_list PySem.F.slot_list_append PySem.F.type_list_append mt_append (pv 2) (pa_cons (pe_callB (r := rMn) (call_min2 rfl) (by rfl) T.b_min boot_min (pa_cons (pv 6) (pa_cons (pv 5) pa_nil))) pa_nil))))))
      (pss_one (ps_ret (pv 2))))), ?_⟩
    refine q_asgL (xs := [.int s]) (el_lst (ea_cons (ev_var rfl) ea_nil) (by show 1 ≤ 100000; decide)) fun p H1 hp e1 h1 => ?_
    refine q_forZ3 (n := bs.length) (G := H) (ea_cons (Ev.mono e1 (by walk_at "ev")) (ea_cons (Ev.mono e1 (by walk_at "ev")) (ea_cons (Ev.mono e1 (by walk_at "ev")) ea_nil))) e1 hP.hb hP.hd hP.hk (by simp) (by simp [hP.gd.ld]) (by simp [hP.kl])
      (fun i σ' H' => (∃ a b c' d, σ' = [some (.ref c), some (.int s), some (.ref p), a, b, c', d]) ∧ Ex H H' ∧ H' p = some (.lst (((List.range (i + 1)).map (stkAt bs ds ks s)).map V.int))) ?_ ?_ ?_ ?_
    · intro H2 e2
      exact ⟨⟨_, _, _, _, rfl⟩, e1.trans e2, e2 p _ h1⟩
    · intro i σ' H' _ p
      exact p.2.1
    · rintro i x y z σ' H' hx hy hz ⟨⟨_, _, _, _, rfl⟩, e2, h2⟩ H3 e3
      obtain ⟨rfl, hi⟩ := at_map hx
      obtain ⟨rfl, _⟩ := at_map hy
      obtain ⟨rfl, _⟩ := at_map hz
      have h3 := e3 p _ h2
      have hlast : ((List.range (i + 1)).map (stkAt bs ds ks s)).map V.int = ((List.range i).map (stkAt bs ds ks s)).map V.int ++ [V.int (stkAt bs ds ks s i)] := by
        rw [List.range_succ, List.map_append, List.map_append]; rfl
      refine q_asg (ev_maxi ev_c (ev_op (ev_op (ev_ixL (v := .int (stkAt bs ds ks s i)) (ev_var rfl) (sq_of h3) (by walk_at "ev") (by rw [hlast]; exact atI_last)) (ev_var rfl) rv_I0) (ev_var rfl) rv_I0)) fun H4 e4 => ?_
      refine s_app (e4 p _ h3) (ev_var rfl) (by walk_at "ev") (by simp; omega) fun H5 e5 => ?_
      refine ⟨⟨_, _, _, _, rfl⟩, Ex.mut (((e2.trans e3).trans e4).trans e5) hp, ?_⟩
      rw [upd_same, List.range_succ (n := i + 1), List.map_append, List.map_append]
      rfl
    · rintro σ' H' ⟨⟨_, _, _, _, rfl⟩, e2, h2⟩
      exact s_ret (ev_var rfl) fun H3 e3 => k p H3 hp (e2.trans e3) (e3 p _ h2)
end Sw
namespace Sw
open PySem PySem.Spec PyProof.Rows L2 Evl
local macro_rules | `(tactic| walk_at "ev") => `(tactic| first
  | exact ev_c
  | exact ev_var rfl
  | ((with_reducible show Ev (tCB rMax2 _) _ _ _); exact ev_maxi (by walk_at "ev") (by walk_at "ev"))
  | ((with_reducible show Ev (tCB rMn _) _ _ _); exact ev_min2 (by walk_at "ev") (by walk_at "ev"))
  | ((with_reducible show Ev (tUn _ _) _ _ _); exact ev_un (by walk_at "ev") ru_neg)
  | ((with_reducible show Ev (tFld _ _ _) _ _ _); exact ev_fldK (by walk_at "ev") (by assumption))
  | ((with_reducible show Ev (tOp (rI0 _) _ _) _ _ _); exact ev_op (by walk_at "ev") (by walk_at "ev") rv_I0)
  | ((with_reducible show Ev (tOp rEq _ _) _ _ _); exact ev_op (by walk_at "ev") (by walk_at "ev") (rv_eq rfl))
  | ((with_reducible show Ev (tOp rNe _ _) _ _ _); exact ev_op (by walk_at "ev") (by walk_at "ev") (rv_ne rfl)))

/-- a promise's uses -/
theorem spl_play {K : PySem.W.Frag} {Z : Ad} {H : Hp} {c : Addr} {bs ds ks : List Int} {tb td tk : Addr} {s : Int} (h : PR K Z H c bs ds ks tb td tk) : SpL (sp_play K Z) [.ref c, .int s] H ((stkL bs ds ks s).map V.int) :=
  fun _ e _ q _ => ⟨c, bs, ds, ks, tb, td, tk, s, rfl, h.mono e, q⟩
def sp_stocks (K : PySem.W.Frag) (Z : Ad) : Sp := fun vs H Q _ => ∃ (c : Addr) (bs ds ks : List Int) (tb td tk : Addr) (gain first full r : Int), vs = [.ref c, .int r] ∧ SR K Z H c bs ds ks tb td tk gain first full ∧ RetL ((stkL bs ds ks (start1 gain first full r)).map V.int) H Q
theorem spl_stocks {K : PySem.W.Frag} {Z : Ad} {H : Hp} {c : Addr} {bs ds ks : List Int} {tb td tk : Addr} {gain first full r : Int} (h : SR K Z H c bs ds ks tb td tk gain first full) :
    SpL (sp_stocks K Z) [.ref c, .int r] H ((stkL bs ds ks (start1 gain first full r)).map V.int) :=
  fun _ e _ q _ => ⟨c, bs, ds, ks, tb, td, tk, gain, first, full, r, rfl, h.mono e, q⟩
variable {P : Program} {w : World} {K : PySem.W.Frag} {mg : Str → Option Value} {base : Heap} {Z : Ad}
theorem ok_Course__stocks_in (T : Txt K mg Z) : FnOk P w K mg base CX0 2 Z.f_Course__stocks_in Z.d_Course__stocks_in p_Course__stocks_in (sp_stocks K Z) := by
  refine T.F_Course__stocks_in.ok sc_Course__stocks_in (fun vs H Q E h => ?_) (fun cdv Ar outer s H vs Q E hr h => ?_)
  · obtain ⟨c, bs, ds, ks, tb, td, tk, gain, first, full, r, rfl, _⟩ := h
    rfl
  · obtain ⟨c, bs, ds, ks, tb, td, tk, gain, first, full, r, rfl, hS, k⟩ := h
    have hP := hS.pr
    refine ⟨_, (pss_cons (ps_if (pt_cmpR op_eq (pv 1) pe_int (nomark _)) (pss_one (ps_ret (pe_meth (pv 0) T.cl_Course T.m_Course__play_round (ok_Course__play_round T) (hr.mono (by decide)) T.b_Course__play_round .nil pass0 (pa_cons pe_int pa_nil)))) pss_nil)
      (pss_cons (ps_set (i := 2) sc_Course__stocks_in.nd rfl (Or.inl rfl) (pe_callB (r := rMn) (call_min2 rfl) (by rfl) T.b_min boot_min (pa_cons (pe_fldK K rfl (pv 0) rfl) (pa_cons (pe_op op_add (pe_fldK K rfl (pv 0) rfl) (pe_op op_mul (pe_op op_sub (pv 1) pe_int) (pe_fldK K rfl (pv 0) rfl))) pa_nil))))
      (pss_one (ps_ret (pe_meth (pv 0) T.cl_Course T.m_Course__play_round (ok_Course__play_round T) (hr.mono (by decide)) T.b_Course__play_round .nil pass0 (pa_cons (pv 2) pa_nil)))))), ?_⟩
    refine q_when (et_test (by walk_at "ev")) (fun hb H1 e1 => ?_) (fun hb H1 e1 => ?_)
    · have hr0 : r = 0 := by simpa using hb
      refine s_retL (el_meth (ev_var rfl) (hP.nf.mono e1) (ea_cons ev_c ea_nil) (spl_play (s := 0) (hP.mono e1))) fun p H2 hp e2 h2 => ?_
      refine k p H2 (fresh_back e1 hp) (e1.trans e2) ?_
      rw [h2]
      unfold start1
      rw [if_pos hr0]
    · have hr0 : ¬ r = 0 := by simpa using hb
      have fg := hS.fg.mono e1
      have ff := hS.ff.mono e1
      have fu := hS.fu.mono e1
      refine q_asg (ev_min2 (by walk_at "ev") (ev_op (by walk_at "ev") (ev_op (by walk_at "ev") (by walk_at "ev") (rv_I (wide_ok hS.gb))) rv_I0)) fun H2 e2 => ?_
      refine s_retL (el_meth (ev_var rfl) (hP.nf.mono (e1.trans e2)) (ea_cons (ev_var rfl) ea_nil) (spl_play (hP.mono (e1.trans e2)))) fun p H3 hp e3 h3 => ?_
      refine k p H3 (fresh_back (e1.trans e2) hp) ((e1.trans e2).trans e3) ?_
      rw [h3]
      unfold start1
      rw [if_neg hr0]
/-- what a course tells -/
def stockI (bs ds ks : List Int) (gain first full day : Int) : Int := stkAt bs ds ks (start1 gain first full (day / (bs.length : Int))) (day % (bs.length : Int)).toNat
structure SM (K : PySem.W.Frag) (Z : Ad) (H : Hp) (c : Addr) (bs ds ks : List Int) (tb td tk : Addr) (gain first full : Int) : Prop where
  sr : SR K Z H c bs ds ks tb td tk gain first full
  nm : NoF H c Z.c_Course "_misses_in"
theorem SM.mono {K : PySem.W.Frag} {Z : Ad} {H H' : Hp} {c : Addr} {bs ds ks : List Int} {tb td tk : Addr} {gain first full : Int} (e : Ex H H') (h : SM K Z H c bs ds ks tb td tk gain first full) : SM K Z H' c bs ds ks tb td tk gain first full := ⟨h.sr.mono e, h.nm.mono e⟩
def sp_misses (K : PySem.W.Frag) (Z : Ad) : Sp := fun vs H Q _ => ∃ (c : Addr) (bs ds ks : List Int) (tb td tk : Addr) (gain first full r : Int), vs = [.ref c, .int r] ∧ SR K Z H c bs ds ks tb td tk gain first full ∧ RetL ((missL ds bs (stkL bs ds ks (start1 gain first full r))).map V.int) H Q
theorem spl_misses {K : PySem.W.Frag} {Z : Ad} {H : Hp} {c : Addr} {bs ds ks : List Int} {tb td tk : Addr} {gain first full r : Int} (h : SR K Z H c bs ds ks tb td tk gain first full) :
    SpL (sp_misses K Z) [.ref c, .int r] H ((missL ds bs (stkL bs ds ks (start1 gain first full r))).map V.int) :=
  fun _ e _ q _ => ⟨c, bs, ds, ks, tb, td, tk, gain, first, full, r, rfl, h.mono e, q⟩
theorem ok_Course__misses_in (T : Txt K mg Z) : FnOk P w K mg base CX0 3 Z.f_Course__misses_in Z.d_Course__misses_in p_Course__misses_in (sp_misses K Z) := by
  refine T.F_Course__misses_in.ok sc_Course__misses_in (fun vs H Q E h => ?_) (fun cdv Ar outer s H vs Q E hr h => ?_)
  · obtain ⟨c, bs, ds, ks, tb, td, tk, gain, first, full, r, rfl, _⟩ := h
    rfl
  · obtain ⟨c, bs, ds, ks, tb, td, tk, gain, first, full, r, rfl, hS, k⟩ := h
    have hP := hS.pr
    have hn := hP.gd.n1
    have hl := hP.gd.ld
    refine ⟨_, (pss_cons (ps_set (i := 2) sc_Course__misses_in.nd rfl (Or.inr rfl) (pe_meth (pv 0) T.cl_Course T.m_Course__stocks_in (ok_Course__stocks_in T) (hr.mono (by decide)) T.b_Course__stocks_in .nil pass0 (pa_cons (pv 1) pa_nil)))
      (pss_one (ps_ret (pe_lc (own := [("at", 3), ("demand", 4)]) rfl sc_Course__misses_in.nd (pi_enumTK K rfl (by rfl) T.b_enumerate (pa_cons (pe_fldK K rfl (pv 0) rfl) pa_nil)) (blkOk_by (own := [("at", 3), ("demand", 4)]) (N := n_Course__misses_in) (sc := defScope s_Course__misses_in) (scope := { kind := PySem.ScopeKind.function, names := [ (PySem.Str.ofString ".0", PySem.NameKind.local), (PySem.Str.ofString "at", PySem.NameKind.local), (PySem.Str.ofString "demand", PySem.NameKind.local), (PySem.Str.ofString "max", PySem.NameKind.globalImplicit), (PySem.Str.ofString "self", PySem.NameKind.free), (PySem.Str.ofString "stocks", PySem.NameKind.free)], isGenerator := false, isCoroutine := false, more := [] : PySem.Scope }) (by decide +kernel)) (fun _ _ _ _ _ => (by exact (pg_tupK K (n := 2) rfl rfl (pgs_cons (pg_name (i := 3) sc_Course__misses_in.nd rfl (Or.inl rfl)) (pgs_cons (pg_name (i := 4) sc_Course__misses_in.nd rfl (Or.inl rfl)) pgs_nil))))) (fun _ _ _ _ _ => pts_nil) (fun _ _ _ _ _ => (pe_callB (r := rMax2) (call_max2 rfl) (by rfl) T.b_max boot_max (pa_cons pe_int (pa_cons (pe_op op_sub (pe_op op_sub (pv 4) (pe_ix (r := rIxL K) ix_list (pv 2) (pv 3) (fun _ _ => rfl))) (pe_ix (r := rIxT K) ix_tup (pe_fldK K rfl (pv 0) rfl) (pv 3) (fun _ _ => rfl))) pa_nil)))))))), ?_⟩
    refine q_asgL (el_meth (ev_var rfl) hS.nf (ea_cons (ev_var rfl) ea_nil) (spl_stocks hS)) fun p H1 hp e1 h1 => ?_
    have hP1 := hP.mono e1
    have fb := hP1.fb
    have fd := hP1.fd
    refine s_retL (xs := (missL ds bs (stkL bs ds ks (start1 gain first full r))).map V.int) ?_ fun q H2 hq e2 h2 => k q H2 (fresh_back e1 hq) (e1.trans e2) h2
    unfold missL
    rw [← rng_map]
    have hdl : (ds.map V.int).length = ds.length := by rw [List.length_map]
    rw [← hdl]
    refine el_lcEnT _ (ea_cons (by walk_at "ev") ea_nil) hP1.hd (by rw [hdl]; omega) (fun _ _ => rfl) fun i x H3 e3 hx => ?_
    obtain ⟨rfl, hi⟩ := at_map hx
    have fb3 := fb.mono e3
    refine ev_maxi ev_c (ev_op (ev_op (ev_var rfl) (ev_ixL (ev_var rfl) (sq_of (e3 p _ h1)) (ev_var rfl) (atI_mapI (i := (i : Int)) (by omega) (by rw [stkL_len]; omega))) rv_I0) (ev_ixT (by walk_at "ev") (ex_t e3 hP1.hb) (ev_var rfl) (atI_mapI (i := (i : Int)) (by omega) (by omega))) rv_I0)
def sp_growing (K : PySem.W.Frag) (Z : Ad) : Sp := fun vs H Q _ => ∃ (c : Addr) (bs ds ks : List Int) (tb td tk : Addr) (gain first full : Int), vs = [.ref c] ∧ SR K Z H c bs ds ks tb td tk gain first full ∧ 0 ≤ gain ∧ RetV (.int (growing gain first full)) H Q
theorem ok_Course__count_growing (T : Txt K mg Z) : FnOk P w K mg base CX0 1 Z.f_Course__count_growing Z.d_Course__count_growing p_Course__count_growing (sp_growing K Z) := by
  refine T.F_Course__count_growing.ok sc_Course__count_growing (fun vs H Q E h => ?_) (fun cdv Ar outer s H vs Q E hr h => ?_)
  · obtain ⟨c, bs, ds, ks, tb, td, tk, gain, first, full, rfl, _⟩ := h
    rfl
  · obtain ⟨c, bs, ds, ks, tb, td, tk, gain, first, full, rfl, hS, hg, k⟩ := h
    have fg := hS.fg
    refine ⟨_, (pss_cons (ps_if (pt_cmpR op_eq (pe_fldK K rfl (pv 0) rfl) pe_int (nomark _)) (pss_one (ps_ret pe_int)) pss_nil)
      (pss_one (ps_ret (pe_un un_neg (pe_op op_fdivW (pe_op op_sub (pe_fldK K rfl (pv 0) rfl) (pe_fldK K rfl (pv 0) rfl)) (pe_fldK K rfl (pv 0) rfl)))))), ?_⟩
    refine q_when (et_test (by walk_at "ev")) (fun hb H1 e1 => ?_) (fun hb H1 e1 => ?_)
    · have hr0 : gain = 0 := by simpa using hb
      refine s_ret ev_c fun H2 e2 => ?_
      have z := k H2 (e1.trans e2)
      unfold growing at z
      rw [if_pos hr0] at z
      exact z
    · have hr0 : ¬ gain = 0 := by simpa using hb
      have fg := hS.fg.mono e1
      have ff := hS.ff.mono e1
      have fu := hS.fu.mono e1
      refine s_ret (ev_un (ev_op (by walk_at "ev") (by walk_at "ev") (rv_I (wide_div (by omega) hS.gb (by decide) (by decide)))) ru_neg) fun H2 e2 => ?_
      have z := k H2 (e1.trans e2)
      unfold growing at z
      rw [if_neg hr0] at z
      exact z
def sp_stock_at (K : PySem.W.Frag) (Z : Ad) : Sp := fun vs H Q _ => ∃ (c : Addr) (bs ds ks : List Int) (tb td tk : Addr) (gain first full day : Int), vs = [.ref c, .int day] ∧ SR K Z H c bs ds ks tb td tk gain first full ∧ RetV (.int (stockI bs ds ks gain first full day)) H Q
theorem spv_stock_at {K : PySem.W.Frag} {Z : Ad} {H : Hp} {c : Addr} {bs ds ks : List Int} {tb td tk : Addr} {gain first full day : Int} (h : SR K Z H c bs ds ks tb td tk gain first full) :
    SpV (sp_stock_at K Z) [.ref c, .int day] H (.int (stockI bs ds ks gain first full day)) :=
  fun _ e _ q _ => ⟨c, bs, ds, ks, tb, td, tk, gain, first, full, day, rfl, h.mono e, q⟩
theorem getD_map {ns : List Int} {i : Nat} : (ns.map V.int).getD i (V.int 0) = V.int (ns.getD i 0) := by
  simp [List.getD]
theorem ok_Course_stock_at (T : Txt K mg Z) : FnOk P w K mg base CX0 3 Z.f_Course_stock_at Z.d_Course_stock_at p_Course_stock_at (sp_stock_at K Z) := by
  refine T.F_Course_stock_at.ok sc_Course_stock_at (fun vs H Q E h => ?_) (fun cdv Ar outer s H vs Q E hr h => ?_)
  · obtain ⟨c, bs, ds, ks, tb, td, tk, gain, first, full, day, rfl, _⟩ := h
    rfl
  · obtain ⟨c, bs, ds, ks, tb, td, tk, gain, first, full, day, rfl, hS, k⟩ := h
    have hP := hS.pr
    have fb := hP.fb
    have h0 := hP.gd.n0
    have h1 := hP.gd.n1
    have hl : ((bs.map V.int).length : Int) = (bs.length : Int) := by rw [List.length_map]
    have hr0 : 0 ≤ day % (bs.length : Int) := Int.emod_nonneg _ (by omega)
    have hr1 : day % (bs.length : Int) < (bs.length : Int) := Int.emod_lt_of_pos _ (by omega)
    refine ⟨_, (pss_cons (ps_asg (pe_callB (r := rDm) (call_divmod) (by rfl) T.b_divmod boot_divmod (pa_cons (pv 1) (pa_cons (pe_callB (r := rLenS K) (call_len_seq) (by rfl) T.b_len boot_len (pa_cons (pe_fldK K rfl (pv 0) rfl) pa_nil)) pa_nil))) (by exact (pg_tupK K (n := 2) rfl rfl (pgs_cons (pg_name (i := 2) sc_Course_stock_at.nd rfl (Or.inl rfl)) (pgs_cons (pg_name (i := 3) sc_Course_stock_at.nd rfl (Or.inl rfl)) pgs_nil)))))
      (pss_one (ps_ret (pe_ix (r := rIxL K) ix_list (pe_meth (pv 0) T.cl_Course T.m_Course__stocks_in (ok_Course__stocks_in T) (hr.mono (by decide)) T.b_Course__stocks_in .nil pass0 (pa_cons (pv 2) pa_nil)) (pv 3) (fun _ _ => rfl))))), ?_⟩
    refine q_pair (eu_dm (ev_var rfl) (Ev.int_eq (ev_lenT (by walk_at "ev") hP.hb) hl) ⟨by omega, by omega⟩) fun H1 e1 => ?_
    refine s_ret (ev_ixNL (el_meth (ev_var rfl) (hS.nf.mono e1) (ea_cons (ev_var rfl) ea_nil) (spl_stocks (hS.mono e1))) (ev_var rfl) (atI_mapI hr0 (by rw [stkL_len]; omega))) fun H2 e2 => ?_
    have z := k H2 (e1.trans e2)
    rw [stkL_get (by omega)]
    exact z
/-- a day's sales: sold, missed, thrown -/
def soldI (bs ds ks : List Int) (gain first full day : Int) : Int := min (stockI bs ds ks gain first full day + bs.getD (day % (bs.length : Int)).toNat 0) (ds.getD (day % (bs.length : Int)).toNat 0)
def endI (bs ds ks : List Int) (gain first full day : Int) : Int := stkAt bs ds ks (start1 gain first full (day / (bs.length : Int))) ((day % (bs.length : Int)).toNat + 1)
def salesI (bs ds ks : List Int) (gain first full day : Int) : List Int :=
  [soldI bs ds ks gain first full day, ds.getD (day % (bs.length : Int)).toNat 0 - soldI bs ds ks gain first full day,
   stockI bs ds ks gain first full day + bs.getD (day % (bs.length : Int)).toNat 0 - soldI bs ds ks gain first full day - endI bs ds ks gain first full day]
def sp_sales_on (K : PySem.W.Frag) (Z : Ad) : Sp := fun vs H Q _ => ∃ (c : Addr) (bs ds ks : List Int) (tb td tk : Addr) (gain first full day : Int), vs = [.ref c, .int day] ∧ SR K Z H c bs ds ks tb td tk gain first full ∧ RetU ((salesI bs ds ks gain first full day).map V.int) H Q
theorem spu_sales_on {K : PySem.W.Frag} {Z : Ad} {H : Hp} {c : Addr} {bs ds ks : List Int} {tb td tk : Addr} {gain first full day : Int} (h : SR K Z H c bs ds ks tb td tk gain first full) :
    SpU (sp_sales_on K Z) [.ref c, .int day] H ((salesI bs ds ks gain first full day).map V.int) :=
  fun _ e _ q _ => ⟨c, bs, ds, ks, tb, td, tk, gain, first, full, day, rfl, h.mono e, q⟩
end Sw
namespace Sw
open PySem PySem.Spec PyProof.Rows L2 Evl
local macro_rules | `(tactic| walk_at "ev") => `(tactic| first
  | exact ev_c
  | exact ev_var rfl
  | ((with_reducible show Ev (tCB rMax2 _) _ _ _); exact ev_maxi (by walk_at "ev") (by walk_at "ev"))
  | ((with_reducible show Ev (tCB rMn _) _ _ _); exact ev_min2 (by walk_at "ev") (by walk_at "ev"))
  | ((with_reducible show Ev (tUn _ _) _ _ _); exact ev_un (by walk_at "ev") ru_neg)
  | ((with_reducible show Ev (tFld _ _ _) _ _ _); exact ev_fldK (by walk_at "ev") (by assumption))
  | ((with_reducible show Ev (tOp (rI0 _) _ _) _ _ _); exact ev_op (by walk_at "ev") (by walk_at "ev") rv_I0)
  | ((with_reducible show Ev (tOp rEq _ _) _ _ _); exact ev_op (by walk_at "ev") (by walk_at "ev") (rv_eq rfl))
  | ((with_reducible show Ev (tOp rNe _ _) _ _ _); exact ev_op (by walk_at "ev") (by walk_at "ev") (rv_ne rfl)))

/-! ### find_settled, sum_settled_round, sales_before -/
structure FS (K : PySem.W.Frag) (Z : Ad) (H : Hp) (c : Addr) (bs ds ks : List Int) (tb td tk : Addr) (gain first full : Int) : Prop where
  sr : SR K Z H c bs ds ks tb td tk gain first full
  ng : NoF H c Z.c_Course "_count_growing"
theorem FS.mono {K : PySem.W.Frag} {Z : Ad} {H H' : Hp} {c : Addr} {bs ds ks : List Int} {tb td tk : Addr} {gain first full : Int} (e : Ex H H') (h : FS K Z H c bs ds ks tb td tk gain first full) : FS K Z H' c bs ds ks tb td tk gain first full := ⟨h.sr.mono e, h.ng.mono e⟩
/-- the first day of the round behind the growing ones that is as a round later -/
def SetAt (bs ds ks : List Int) (gain first full : Int) (i : Nat) : Prop := i ≤ bs.length ∧
  stkAt bs ds ks (start1 gain first full (growing gain first full)) i = stkAt bs ds ks (start1 gain first full (growing gain first full + 1)) i ∧
  ∀ j, j < i → stkAt bs ds ks (start1 gain first full (growing gain first full)) j ≠ stkAt bs ds ks (start1 gain first full (growing gain first full + 1)) j
def sp_settled (K : PySem.W.Frag) (Z : Ad) : Sp := fun vs H Q _ => ∃ (c : Addr) (bs ds ks : List Int) (tb td tk : Addr) (gain first full : Int) (i : Nat), vs = [.ref c] ∧ FS K Z H c bs ds ks tb td tk gain first full ∧ 0 ≤ gain ∧ SetAt bs ds ks gain first full i ∧
  RetV (.int (growing gain first full * (bs.length : Int) + (i : Int))) H Q
theorem spv_growing {K : PySem.W.Frag} {Z : Ad} {H : Hp} {c : Addr} {bs ds ks : List Int} {tb td tk : Addr} {gain first full : Int} (h : SR K Z H c bs ds ks tb td tk gain first full) (hg : 0 ≤ gain) :
    SpV (sp_growing K Z) [.ref c] H (.int (growing gain first full)) := fun _ e _ q _ => ⟨c, bs, ds, ks, tb, td, tk, gain, first, full, rfl, h.mono e, hg, q⟩
variable {P : Program} {w : World} {K : PySem.W.Frag} {mg : Str → Option Value} {base : Heap} {Z : Ad}
theorem ok_Course_find_settled (T : Txt K mg Z) : FnOk P w K mg base CX0 3 Z.f_Course_find_settled Z.d_Course_find_settled p_Course_find_settled (sp_settled K Z) := by
  refine T.F_Course_find_settled.ok sc_Course_find_settled (fun vs H Q E h => ?_) (fun cdv Ar outer s H vs Q E hr h => ?_)
  · obtain ⟨c, bs, ds, ks, tb, td, tk, gain, first, full, i, rfl, _⟩ := h
    rfl
  · obtain ⟨c, bs, ds, ks, tb, td, tk, gain, first, full, i, rfl, hF, hg, hi, k⟩ := h
    have hS := hF.sr
    have hP := hS.pr
    have hn := hP.gd.n1
    refine ⟨_, (pss_cons (ps_set (i := 1) sc_Course_find_settled.nd rfl (Or.inl rfl) (pe_meth0 (pv 0) T.cl_Course T.m_Course__count_growing (ok_Course__count_growing T) (hr.mono (by decide)) T.b_Course__count_growing .nil pass0))
      (pss_cons (ps_set (i := 2) sc_Course_find_settled.nd rfl (Or.inl rfl) (pe_meth (pv 0) T.cl_Course T.m_Course__stocks_in (ok_Course__stocks_in T) (hr.mono (by decide)) T.b_Course__stocks_in .nil pass0 (pa_cons (pv 1) pa_nil)))
      (pss_cons (ps_set (i := 3) sc_Course_find_settled.nd rfl (Or.inl rfl) (pe_meth (pv 0) T.cl_Course T.m_Course__stocks_in (ok_Course__stocks_in T) (hr.mono (by decide)) T.b_Course__stocks_in .nil pass0 (pa_cons (pe_op op_add (pv 1) pe_int) pa_nil)))
      (pss_cons (ps_set (i := 4) sc_Course_find_settled.nd rfl (Or.inl rfl) pe_int)
      (pss_cons (ps_while PassesOwn.never (pt_cmpR op_ne (pe_ix (r := rIxL K) ix_list (pv 2) (pv 4) (fun _ _ => rfl)) (pe_ix (r := rIxL K) ix_list (pv 3) (pv 4) (fun _ _ => rfl)) (nomark _)) (pss_one (ps_aug (i := 4) sc_Course_find_settled.nd rfl (Or.inl rfl) pe_int in_add)))
      (pss_one (ps_ret (pe_op op_add (pe_op op_mul (pv 1) (pe_callB (r := rLenS K) (call_len_seq) (by rfl) T.b_len boot_len (pa_cons (pe_fldK K rfl (pv 0) rfl) pa_nil))) (pv 4))))))))), ?_⟩
    refine q_asg (ev_meth (ev_var rfl) hF.ng ea_nil (spv_growing hS hg)) fun H1 e1 => ?_
    refine q_asgL (el_meth (ev_var rfl) (hS.nf.mono e1) (ea_cons (ev_var rfl) ea_nil) (spl_stocks (hS.mono e1))) fun p H2 hp e2 h2 => ?_
    refine q_asgL (el_meth (ev_var rfl) (hS.nf.mono (e1.trans e2)) (ea_cons (by walk_at "ev") ea_nil) (spl_stocks (hS.mono (e1.trans e2)))) fun q H3 hq e3 h3 => ?_
    refine q_asg ev_c fun H4 e4 => ?_
    refine q_while (fun m σ' H' => ∃ j : Nat, m = i - j ∧ j ≤ i ∧ σ' = [some (.ref c), some (.int (growing gain first full)), some (.ref p), some (.ref q), some (.int (j : Int))] ∧ Ex H4 H') i ⟨0, rfl, Nat.zero_le _, rfl, Ex.refl _⟩ ?_
    rintro m σ' H' ⟨j, rfl, hj, rfl, e5⟩
    have hjn : j ≤ bs.length := Nat.le_trans hj hi.1
    refine ⟨!decide (stkAt bs ds ks (start1 gain first full (growing gain first full)) j = stkAt bs ds ks (start1 gain first full (growing gain first full + 1)) j), ?_, fun hb H5 e6 => ?_, fun hb H5 e6 => ?_⟩
    · refine et_test ?_
      refine ev_is (ev_op (ev_ixL (ev_var rfl) (sq_of (e5 _ _ (e4 _ _ (e3 _ _ h2)))) (ev_var rfl) (atI_mapI (i := (j : Int)) (by omega) (by rw [stkL_len]; omega)))
        (ev_ixL (ev_var rfl) (sq_of (e5 _ _ (e4 _ _ h3))) (ev_var rfl) (atI_mapI (i := (j : Int)) (by omega) (by rw [stkL_len]; omega))) (rv_ne rfl)) ?_
      rw [Int.toNat_natCast, stkL_get hjn, stkL_get hjn]
      simp
    · have hne : stkAt bs ds ks (start1 gain first full (growing gain first full)) j ≠ stkAt bs ds ks (start1 gain first full (growing gain first full + 1)) j := by simpa using hb
      have hlt : j < i := by
        rcases Nat.lt_or_ge j i with z | z
        · exact z
        · have : j = i := by omega
          subst this
          exact absurd hi.2.1 hne
      refine ⟨fun σ2 H2 => ∃ m', m' < i - j ∧ ∃ j' : Nat, m' = i - j' ∧ j' ≤ i ∧ σ2 = [some (.ref c), some (.int (growing gain first full)), some (.ref p), some (.ref q), some (.int (j' : Int))] ∧ Ex H4 H2, fun σ2 H2 h => h, ?_⟩
      refine s_aug (a := (j : Int)) (b := 1) rfl ev_c fun H6 e7 => ?_
      exact ⟨i - (j + 1), by omega, j + 1, rfl, hlt, rfl, (e5.trans e6).trans e7⟩
    · have heq : stkAt bs ds ks (start1 gain first full (growing gain first full)) j = stkAt bs ds ks (start1 gain first full (growing gain first full + 1)) j := by simpa using hb
      have hji : j = i := by
        rcases Nat.lt_or_ge j i with z | z
        · exact absurd heq (hi.2.2 j z)
        · omega
      subst hji
      have eA : Ex H H5 := ((((e1.trans e2).trans e3).trans e4).trans e5).trans e6
      have fb := hP.fb.mono eA
      have hl : ((bs.map V.int).length : Int) = (bs.length : Int) := by rw [List.length_map]
      refine s_ret (ev_op (ev_op (ev_var rfl) (Ev.int_eq (ev_lenT (by walk_at "ev") (ex_t eA hP.hb)) hl) (rv_I (wide_ok (by omega)))) (ev_var rfl) rv_I0) fun H6 e7 => k H6 (eA.trans e7)
/-- the whole course -/
structure CO (K : PySem.W.Frag) (Z : Ad) (H : Hp) (c : Addr) (bs ds ks : List Int) (gain first full : Int) (fm lm : List Int) : Prop where
  sr : ∃ tb td tk, SR K Z H c bs ds ks tb td tk gain first full
  ffm : ∃ tf, FlK K H c Z.c_Course "_first_misses" (.ref tf) ∧ SqL K H tf (fm.map V.int)
  flm : ∃ tl, FlK K H c Z.c_Course "_later_misses" (.ref tl) ∧ SqL K H tl (lm.map V.int)
  lfm : fm.length = bs.length
  llm : lm.length = bs.length
  slm : lm.sum.natAbs ≤ 2 ^ 40
  sb : bs.sum.natAbs ≤ 2 ^ 40
  sd : ds.sum.natAbs ≤ 2 ^ 40
  nf : ∀ m : Str, m ∈ (["stock_at", "sales_on", "sales_before", "find_settled", "sum_settled_round", "loaves_at", "_misses_in", "_count_growing"] : List Str) → NoF H c Z.c_Course m
theorem CO.mono {K : PySem.W.Frag} {Z : Ad} {H H' : Hp} {c : Addr} {bs ds ks : List Int} {gain first full : Int} {fm lm : List Int} (e : Ex H H') (h : CO K Z H c bs ds ks gain first full fm lm) : CO K Z H' c bs ds ks gain first full fm lm :=
  ⟨let ⟨a, b, c, x⟩ := h.sr; ⟨a, b, c, x.mono e⟩, let ⟨a, x, y⟩ := h.ffm; ⟨a, x.mono e, ex_l e y⟩, let ⟨a, x, y⟩ := h.flm; ⟨a, x.mono e, ex_l e y⟩, h.lfm, h.llm, h.slm, h.sb, h.sd, fun m hm => (h.nf m hm).mono e⟩
def longI (bs ds lm : List Int) : List Int := [ds.sum - lm.sum, lm.sum, bs.sum - (ds.sum - lm.sum)]
def sp_sumround (K : PySem.W.Frag) (Z : Ad) : Sp := fun vs H Q _ => ∃ (c : Addr) (bs ds ks : List Int) (gain first full : Int) (fm lm : List Int), vs = [.ref c] ∧ CO K Z H c bs ds ks gain first full fm lm ∧ RetU ((longI bs ds lm).map V.int) H Q
theorem ok_Course_sum_settled_round (T : Txt K mg Z) : FnOk P w K mg base CX0 1 Z.f_Course_sum_settled_round Z.d_Course_sum_settled_round p_Course_sum_settled_round (sp_sumround K Z) := by
  refine T.F_Course_sum_settled_round.ok sc_Course_sum_settled_round (fun vs H Q E h => ?_) (fun cdv Ar outer s H vs Q E hr h => ?_)
  · obtain ⟨c, bs, ds, ks, gain, first, full, fm, lm, rfl, _⟩ := h
    rfl
  · obtain ⟨c, bs, ds, ks, gain, first, full, fm, lm, rfl, hC, k⟩ := h
    obtain ⟨tb, td, tk, hS⟩ := hC.sr
    obtain ⟨tl, fl, hl⟩ := hC.flm
    have hP := hS.pr
    have fd := hP.fd
    refine ⟨_, (pss_cons (ps_set (i := 1) sc_Course_sum_settled_round.nd rfl (Or.inl rfl) (pe_callB (r := rSum K) (cr_sum rfl) (by rfl) T.b_sum boot_sum (pa_cons (pe_fldK K rfl (pv 0) rfl) pa_nil)))
      (pss_cons (ps_set (i := 2) sc_Course_sum_settled_round.nd rfl (Or.inl rfl) (pe_op op_sub (pe_callB (r := rSumT K) (cr_sumT rfl) (by rfl) T.b_sum boot_sum (pa_cons (pe_fldK K rfl (pv 0) rfl) pa_nil)) (pv 1)))
      (pss_one (ps_ret (pe_tup (pa_cons (pv 2) (pa_cons (pv 1) (pa_cons (pe_op op_sub (pe_callB (r := rSumT K) (cr_sumT rfl) (by rfl) T.b_sum boot_sum (pa_cons (pe_fldK K rfl (pv 0) rfl) pa_nil)) (pv 2)) pa_nil)))))))), ?_⟩
    refine q_asg (ev_sumL (by walk_at "ev") hl) fun H1 e1 => ?_
    have fd := hP.fd.mono e1
    refine q_asg (ev_op (ev_sumT (by walk_at "ev") (ex_t e1 hP.hd)) (by walk_at "ev") rv_I0) fun H2 e2 => ?_
    have fb := hP.fb.mono (e1.trans e2)
    refine s_retU (eu_tup (ea_cons (ev_var rfl) (ea_cons (ev_var rfl) (ea_cons (ev_op (ev_sumT (by walk_at "ev") (ex_t (e1.trans e2) hP.hb)) (ev_var rfl) rv_I0) ea_nil))) (by show 3 ≤ 100000; decide)) fun q H3 hq e3 h3 => k q H3 (fresh_back (e1.trans e2) hq) ((e1.trans e2).trans e3) h3
/-- the first so many days -/
def missedI (bs fm lm : List Int) (days : Int) : Int := (fm.take days.toNat).sum + sumRep lm (max 0 (days - (bs.length : Int)))
def totI (bs ds ks : List Int) (gain first full : Int) (fm lm : List Int) (days : Int) : List Int :=
  [sumRep ds days - missedI bs fm lm days, missedI bs fm lm days, sumRep bs days - (sumRep ds days - missedI bs fm lm days) - stockI bs ds ks gain first full days]
def sp_before (K : PySem.W.Frag) (Z : Ad) : Sp := fun vs H Q _ => ∃ (c : Addr) (bs ds ks : List Int) (gain first full : Int) (fm lm : List Int) (days : Int), vs = [.ref c, .int days] ∧ 0 ≤ days ∧ CO K Z H c bs ds ks gain first full fm lm ∧ RetU ((totI bs ds ks gain first full fm lm days).map V.int) H Q
theorem spv_sumrep {K : PySem.W.Frag} {H : Hp} {a : Addr} {am : List Int} {days : Int} (h : SqT K H a (am.map V.int) ∨ SqL K H a (am.map V.int)) (h0 : 0 < am.length) (h1 : am.length ≤ 24) (h2 : am.sum.natAbs ≤ 2 ^ 40) :
    SpV (sp_sum_repeated K) [.ref a, .int days] H (.int (sumRep am days)) := fun _ e _ q _ => ⟨a, am, days, rfl, h.imp (ex_t e) (ex_l e), h0, h1, h2, q⟩
theorem ok_Course_sales_before (T : Txt K mg Z) : FnOk P w K mg base CX0 4 Z.f_Course_sales_before Z.d_Course_sales_before p_Course_sales_before (sp_before K Z) := by
  refine T.F_Course_sales_before.ok sc_Course_sales_before (fun vs H Q E h => ?_) (fun cdv Ar outer s H vs Q E hr h => ?_)
  · obtain ⟨c, bs, ds, ks, gain, first, full, fm, lm, days, rfl, _⟩ := h
    rfl
  · obtain ⟨c, bs, ds, ks, gain, first, full, fm, lm, days, rfl, hd0, hC, k⟩ := h
    obtain ⟨tb, td, tk, hS⟩ := hC.sr
    have hP := hS.pr
    have h0 := hP.gd.n0
    have h1 := hP.gd.n1
    have hld := hP.gd.ld
    have fb := hP.fb
    have hdn : days = ((days.toNat : Nat) : Int) := by omega
    have hl : ((bs.map V.int).length : Int) = (bs.length : Int) := by rw [List.length_map]
    refine ⟨_, (pss_cons (ps_set (i := 2) sc_Course_sales_before.nd rfl (Or.inl rfl) (pe_callB (r := rMax2) (call_max2 rfl) (by rfl) T.b_max boot_max (pa_cons pe_int (pa_cons (pe_op op_sub (pv 1) (pe_callB (r := rLenS K) (call_len_seq) (by rfl) T.b_len boot_len (pa_cons (pe_fldK K rfl (pv 0) rfl) pa_nil))) pa_nil))))
      (pss_cons (ps_set (i := 3) sc_Course_sales_before.nd rfl (Or.inl rfl) (pe_op op_add (pe_callB (r := rSum K) (cr_sum rfl) (by rfl) T.b_sum boot_sum (pa_cons (pe_slice (r := rSlL K) sl_list (pe_fldK K rfl (pv 0) rfl) po_none (po_some (pv 1))) pa_nil)) (pe_call (ok_sum_repeated T) (hr.mono (by decide)) (by rfl) T.g_sum_repeated T.F_sum_repeated.kp T.b_sum_repeated .nil pass0 (pa_cons (pe_fldK K rfl (pv 0) rfl) (pa_cons (pv 2) pa_nil)))))
      (pss_cons (ps_set (i := 4) sc_Course_sales_before.nd rfl (Or.inl rfl) (pe_op op_sub (pe_call (ok_sum_repeated T) (hr.mono (by decide)) (by rfl) T.g_sum_repeated T.F_sum_repeated.kp T.b_sum_repeated .nil pass0 (pa_cons (pe_fldK K rfl (pv 0) rfl) (pa_cons (pv 1) pa_nil))) (pv 3)))
      (pss_one (ps_ret (pe_tup (pa_cons (pv 4) (pa_cons (pv 3) (pa_cons (pe_op op_sub (pe_op op_sub (pe_call (ok_sum_repeated T) (hr.mono (by decide)) (by rfl) T.g_sum_repeated T.F_sum_repeated.kp T.b_sum_repeated .nil pass0 (pa_cons (pe_fldK K rfl (pv 0) rfl) (pa_cons (pv 1) pa_nil))) (pv 4)) (pe_meth (pv 0) T.cl_Course T.m_Course_stock_at (ok_Course_stock_at T) (hr.mono (by decide)) T.b_Course_stock_at .nil pass0 (pa_cons (pv 1) pa_nil))) pa_nil))))))))), ?_⟩
    refine q_asg (ev_maxi ev_c (ev_op (ev_var rfl) (Ev.int_eq (ev_lenT (by walk_at "ev") hP.hb) hl) rv_I0)) fun H1 e1 => ?_
    have hC1 := hC.mono e1
    obtain ⟨tf, ff, hf⟩ := hC1.ffm
    obtain ⟨tl, fl, hlm⟩ := hC1.flm
    refine q_asg (ev_op (ev_sumM (ns := fm.take days.toNat) ?_) (ev_call (vs := [.ref tl, .int (max 0 (days - (bs.length : Int)))]) (ea_cons (by walk_at "ev") (ea_cons (ev_var rfl) ea_nil)) (spv_sumrep (.inr hlm) (by rw [hC.llm]; omega) (by rw [hC.llm]; omega) hC.slm)) rv_I0) fun H2 e2 => ?_
    · rw [List.map_take]
      exact EvL.m (el_take (em_of (by walk_at "ev") hf) (Ev.int_eq (ev_var rfl) hdn))
    have hP2 := hP.mono (e1.trans e2)
    have fd := hP2.fd
    refine q_asg (ev_op (ev_call (vs := [.ref td, .int days]) (ea_cons (by walk_at "ev") (ea_cons (ev_var rfl) ea_nil)) (spv_sumrep (.inl hP2.hd) (by omega) (by omega) hC.sd)) (ev_var rfl) rv_I0) fun H3 e3 => ?_
    have eA := (e1.trans e2).trans e3
    have hP3 := hP.mono eA
    have fb3 := hP3.fb
    refine s_retU (eu_tup (ea_cons (ev_var rfl) (ea_cons (ev_var rfl) (ea_cons (ev_op (ev_op (ev_call (vs := [.ref tb, .int days]) (ea_cons (by walk_at "ev") (ea_cons (ev_var rfl) ea_nil)) (spv_sumrep (.inl hP3.hb) (by omega) (by omega) hC.sb)) (ev_var rfl) rv_I0)
      (ev_meth (ev_var rfl) (((hC.nf _ (by decide)).mono eA)) (ea_cons (ev_var rfl) ea_nil) (spv_stock_at (hS.mono eA))) rv_I0) ea_nil))) (by show 3 ≤ 100000; decide)) fun q H4 hq e4 h4 => k q H4 (fresh_back eA hq) (eA.trans e4) h4
end Sw
namespace Sw
open PySem PySem.Spec PyProof.Rows L2 Evl
local macro_rules | `(tactic| walk_at "ev") => `(tactic| first
  | exact ev_c
  | exact ev_var rfl
  | ((with_reducible show Ev (tCB rMax2 _) _ _ _); exact ev_maxi (by walk_at "ev") (by walk_at "ev"))
  | ((with_reducible show Ev (tCB rMn _) _ _ _); exact ev_min2 (by walk_at "ev") (by walk_at "ev"))
  | ((with_reducible show Ev (tUn _ _) _ _ _); exact ev_un (by walk_at "ev") ru_neg)
  | ((with_reducible show Ev (tFld _ _ _) _ _ _); exact ev_fldK (by walk_at "ev") (by assumption))
  | ((with_reducible show Ev (tOp (rI0 _) _ _) _ _ _); exact ev_op (by walk_at "ev") (by walk_at "ev") rv_I0)
  | ((with_reducible show Ev (tOp rEq _ _) _ _ _); exact ev_op (by walk_at "ev") (by walk_at "ev") (rv_eq rfl))
  | ((with_reducible show Ev (tOp rNe _ _) _ _ _); exact ev_op (by walk_at "ev") (by walk_at "ev") (rv_ne rfl)))

/-! ### what a course is made with -/
def gainOf (bs ds : List Int) : Int := max 0 (bs.sum - ds.sum)
def firstOf (bs ds ks : List Int) : Int := stkAt bs ds ks 0 bs.length
def fullOf (bs ds ks : List Int) : Int := stkAt bs ds ks (ks.getD 0 0 + ds.getD 0 0) bs.length
def fmOf (bs ds ks : List Int) : List Int := missL ds bs (stkL bs ds ks (start1 (gainOf bs ds) (firstOf bs ds ks) (fullOf bs ds ks) 0))
def lmOf (bs ds ks : List Int) : List Int := missL ds bs (stkL bs ds ks (start1 (gainOf bs ds) (firstOf bs ds ks) (fullOf bs ds ks) 1))
theorem sum_bound {xs : List Int} {M : Int} (hM : 0 ≤ M) (h : ∀ x ∈ xs, 0 ≤ x ∧ x ≤ M) : 0 ≤ xs.sum ∧ xs.sum ≤ (xs.length : Int) * M := by
  induction xs with
  | nil => simp
  | cons a r ih =>
    have h1 := h a (by simp)
    have h2 := ih fun x hx => h x (by simp [hx])
    rw [List.sum_cons, List.length_cons]
    have e : ((r.length + 1 : Nat) : Int) * M = (r.length : Int) * M + M := by
      rw [Int.natCast_add, Int.add_mul]; simp
    omega
theorem sum_small {xs : List Int} (hl : xs.length ≤ 24) (h : ∀ x ∈ xs, 0 ≤ x ∧ x ≤ 1000000000) : 0 ≤ xs.sum ∧ xs.sum ≤ 24000000000 := by
  have z := sum_bound (by omega : (0 : Int) ≤ 1000000000) h
  have : (xs.length : Int) * 1000000000 ≤ 24 * 1000000000 := Int.mul_le_mul_of_nonneg_right (by omega) (by omega)
  omega
theorem getD_mem0 {xs : List Int} {i : Nat} (h : ∀ x ∈ xs, 0 ≤ x ∧ x ≤ 1000000000) : 0 ≤ xs.getD i 0 ∧ xs.getD i 0 ≤ 1000000000 := by
  by_cases hi : i < xs.length
  · have e : xs.getD i 0 = xs[i] := by simp [List.getD, hi]
    rw [e]; exact h _ (List.getElem_mem hi)
  · have e : xs.getD i 0 = 0 := by simp [List.getD, List.getElem?_eq_none (Nat.le_of_not_lt hi)]
    rw [e]; omega
theorem keepAt_nn {bs : List Int} {life : Int} {i : Nat} (h : ∀ x ∈ bs, 0 ≤ x ∧ x ≤ 1000000000) : 0 ≤ keepAt bs life i := by
  unfold keepAt
  generalize (life - 1).toNat = m
  induction m with
  | zero => simp
  | succ m ih =>
    rw [List.range_succ, List.map_append, List.sum_append]
    have z := (getD_mem0 (i := ((((i : Int) - (m : Int)) % (bs.length : Int)).toNat)) h).1
    simp at z ih ⊢
    omega
theorem keepL_nn {bs : List Int} {life : Int} (h : ∀ x ∈ bs, 0 ≤ x ∧ x ≤ 1000000000) {i : Nat} : 0 ≤ (keepL bs life).getD i 0 := by
  unfold keepL
  by_cases hi : i < bs.length
  · have e : ((List.range bs.length).map (keepAt bs life)).getD i 0 = keepAt bs life i := by simp [List.getD, List.getElem?_range hi]
    rw [e]; exact keepAt_nn h
  · have e : ((List.range bs.length).map (keepAt bs life)).getD i 0 = 0 := by
      simp [List.getD, List.getElem?_eq_none (show (List.map (keepAt bs life) (List.range bs.length)).length ≤ i by simp; omega)]
    rw [e]; omega
theorem stp_nn {s b d k : Int} (hk : 0 ≤ k) : 0 ≤ stp s b d k := by unfold stp; omega
theorem stkAt_nn {bs ds ks : List Int} {s : Int} (hs : 0 ≤ s) (hk : ∀ i, 0 ≤ ks.getD i 0) (i : Nat) : 0 ≤ stkAt bs ds ks s i := by
  cases i with
  | zero => exact hs
  | succ i => exact stp_nn (hk i)
theorem missL_len {ds bs st : List Int} : (missL ds bs st).length = ds.length := by simp [missL]
theorem missL_small {ds bs st : List Int} (hd : ∀ x ∈ ds, 0 ≤ x ∧ x ≤ 1000000000) (hb : ∀ i, 0 ≤ bs.getD i 0) (hs : ∀ i, i < ds.length → 0 ≤ st.getD i 0) : ∀ x ∈ missL ds bs st, 0 ≤ x ∧ x ≤ 1000000000 := by
  intro x hx
  unfold missL at hx
  obtain ⟨i, hi, rfl⟩ := List.mem_map.mp hx
  have h1 := hb i
  have h2 := hs i (List.mem_range.mp hi)
  have h3 := getD_mem0 (i := i) hd
  omega
theorem start1_nn {gain first full r : Int} (hg : 0 ≤ gain) (hf : 0 ≤ first) (hu : 0 ≤ full) (hr : 0 ≤ r) : 0 ≤ start1 gain first full r := by
  unfold start1
  by_cases h : r = 0
  · rw [if_pos h]; omega
  · rw [if_neg h]
    have : 0 ≤ (r - 1) * gain := Int.mul_nonneg (by omega) hg
    omega
structure CoM (bs ds ks : List Int) : Prop where
  gd : Good bs ds
  kl : ks.length = bs.length
  kn : ∀ i, 0 ≤ ks.getD i 0
theorem CoM.first {bs ds ks : List Int} (h : CoM bs ds ks) : 0 ≤ firstOf bs ds ks := stkAt_nn (by omega) h.kn _
theorem CoM.full {bs ds ks : List Int} (h : CoM bs ds ks) : 0 ≤ fullOf bs ds ks := stkAt_nn (by have := h.kn 0; have := (getD_mem0 (i := 0) h.gd.d0).1; omega) h.kn _
theorem CoM.gainb {bs ds ks : List Int} (h : CoM bs ds ks) : 0 ≤ gainOf bs ds ∧ gainOf bs ds ≤ 24000000000 := by
  have z1 := sum_small h.gd.n1 h.gd.b0
  have z2 := sum_small (by have := h.gd.ld; have := h.gd.n1; omega) h.gd.d0
  unfold gainOf; omega
theorem CoM.miss {bs ds ks : List Int} (h : CoM bs ds ks) {r : Int} (hr : 0 ≤ r) : ∀ x ∈ missL ds bs (stkL bs ds ks (start1 (gainOf bs ds) (firstOf bs ds ks) (fullOf bs ds ks) r)), 0 ≤ x ∧ x ≤ 1000000000 := by
  refine missL_small h.gd.d0 (fun i => (getD_mem0 h.gd.b0).1) fun i hi => ?_
  rw [stkL_get (by have := h.gd.ld; omega)]
  exact stkAt_nn (start1_nn h.gainb.1 h.first h.full hr) h.kn i
/-- from H to S, what is not of M is kept, and what is of M is known -/
structure Go (M : Addr → Prop) (a : Addr) (H S : Hp) : Prop where
  ex : Ex (wn H M) (wn S M)
  kn : ∀ b, M b → S b ≠ none
  al : ∀ b o, H b = some o → b ≠ a → S b = some o
theorem Go.up {M : Addr → Prop} {H H1 : Hp} {a : Addr} {o : HO} (ha : M a) (kn : ∀ b, M b → H b ≠ none) (e : Ex H H1) : Go M a H (upd H1 a o) := by
  refine ⟨(wn_mono e).trans (wn_upd ha), fun b hb q => ?_, fun b u h z => by rw [upd_ne z]; exact e b u h⟩
  by_cases z : b = a
  · rw [z, upd_same] at q; cases q
  · rw [upd_ne z] at q
    cases hh : H b with
    | none => exact kn b hb hh
    | some u => rw [e b u hh] at q; cases q
/-- the finished course of a bakery -/
def CoAt (K : PySem.W.Frag) (Z : Ad) (H : Hp) (c : Addr) (bs ds ks : List Int) : Prop :=
  CO K Z H c bs ds ks (gainOf bs ds) (firstOf bs ds ks) (fullOf bs ds ks) (fmOf bs ds ks) (lmOf bs ds ks)
def sp_Cinit (K : PySem.W.Frag) (Z : Ad) : Sp := fun vs H Q _ => ∃ (x dx tb td : Addr) (bs ds : List Int) (life : Int) (N : Addr → Prop), vs = [.ref x, .ref tb, .ref td, .int life] ∧ H x = some (.ins Z.c_Course dx []) ∧
  SqT K (wn H N) tb (bs.map V.int) ∧ SqT K (wn H N) td (ds.map V.int) ∧ Good bs ds ∧ 1 ≤ life ∧ life ≤ 30 ∧
  (∀ b, N b → H b ≠ none) ∧ ¬ N x ∧ ∀ H', CoAt K Z (wn H' N) x bs ds (keepL bs life) → (∀ b o, H b = some o → b ≠ x → H' b = some o) → Q .non H'
theorem spl_keep {K : PySem.W.Frag} {H : Hp} {a : Addr} {bs : List Int} {life : Int} (h : SqT K H a (bs.map V.int)) (h0 : 0 < bs.length) (h1 : bs.length ≤ 24) (h2 : 1 ≤ life) (h3 : life ≤ 30) :
    SpL (sp_count_keepable K) [.ref a, .int life] H ((keepL bs life).map V.int) := fun _ e _ q _ => ⟨a, bs, life, rfl, ex_t e h, h0, h1, h2, h3, q⟩
theorem keepL_len {bs : List Int} {life : Int} : (keepL bs life).length = bs.length := by simp [keepL]
theorem atI_neg1 {xs : List Int} {n : Nat} (h : xs.length = n + 1) : atI (xs.map V.int) (-1) = some (.int (xs.getD n 0)) := by
  have e : ixN (xs.map V.int).length (-1) = some n := by
    unfold ixN
    rw [List.length_map, h]
    rw [if_neg (by omega), if_pos (by omega)]
    congr 1
    omega
  unfold atI
  rw [e]
  simp [List.getD, h]
theorem flk_of {K : PySem.W.Frag} {S : Hp} {x C dx : Addr} {fs : List (Str × V)} {f : Str} {v : V} (h : S x = some (.ins C dx fs)) (c : Cls K C) (n : NoAttr K C f) (l : fs.lookup f = some v) : FlK K S x C f v := ⟨⟨dx, fs, h, l⟩, c, n⟩
def cf3 (tb td tk : Addr) : List (Str × V) := putF "_keepable" (.ref tk) (putF "_demands" (.ref td) (putF "_bakes" (.ref tb) []))
def cf6 (tb td tk : Addr) (g a b : Int) : List (Str × V) := putF "_full_end" (.int b) (putF "_first_end" (.int a) (putF "_gain" (.int g) (cf3 tb td tk)))
def cf8 (tb td tk tf tl : Addr) (g a b : Int) : List (Str × V) := putF "_later_misses" (.ref tl) (putF "_first_misses" (.ref tf) (cf6 tb td tk g a b))
section
variable {K : PySem.W.Frag} {σ : L2.St} {H : Hp} {ta te : TE} {v : V} {a C dx : Addr} {fs : List (Str × V)} {f : Str} {D : Ends} {tz : TS}
variable {M : Addr → Prop}
/-- self.f = e while self is being made -/
theorem q_self (ha : M a) (kn : ∀ b, M b → H b ≠ none) (h : Ev te σ H v) (ho : ∀ H1, Ex H H1 → Ev ta σ H1 (.ref a)) (hx : H a = some (.ins C dx fs)) (c : Cls K C) (n : NoAttr K C f) (hl : fs.length < 1000)
    (k : ∀ S : Hp, S a = some (.ins C dx (putF f v fs)) → Go M a H S → tz D σ S) : tSeq (sFld K ta te f) tz D σ H := q_fld h ho hx c n hl fun H1 e => k _ upd_same (Go.up ha kn e)
theorem fresh_l {H H1 : Hp} {p : Addr} {xs : List V} {o : HO} (ha : M a) (kn : ∀ b, M b → H b ≠ none) (hp : H p = none) (h1 : H1 p = some (.lst xs)) : SqL K (wn (upd H1 a o) M) p xs := by
  have q : ¬ M p := fun z => kn p z hp
  have nb : p ≠ a := fun z => q (by rw [z]; exact ha)
  exact sq_of (by rw [wn_ni q, upd_ne nb]; exact h1)
theorem fresh_t {H H1 : Hp} {p : Addr} {xs : List V} {o : HO} (ha : M a) (kn : ∀ b, M b → H b ≠ none) (hp : H p = none) (h1 : H1 p = some (.tup xs)) : SqT K (wn (upd H1 a o) M) p xs := by
  have q : ¬ M p := fun z => kn p z hp
  have nb : p ≠ a := fun z => q (by rw [z]; exact ha)
  exact st_of (by rw [wn_ni q, upd_ne nb]; exact h1)
theorem q_selfL {xs : List V} (ha : M a) (kn : ∀ b, M b → H b ≠ none) (h : EvL te σ H xs) (ho : ∀ H1, Ex H H1 → Ev ta σ H1 (.ref a)) (hx : H a = some (.ins C dx fs)) (c : Cls K C) (n : NoAttr K C f) (hl : fs.length < 1000)
    (k : ∀ (p : Addr) (S : Hp), SqL K (wn S M) p xs → S a = some (.ins C dx (putF f (.ref p) fs)) → Go M a H S → tz D σ S) : tSeq (sFld K ta te f) tz D σ H := q_fldL h ho hx c n hl fun p H1 hp e h1 =>
  k p _ (fresh_l ha kn hp h1) upd_same (Go.up ha kn e)
theorem s_selfL {xs : List V} (ha : M a) (kn : ∀ b, M b → H b ≠ none) (h : EvL te σ H xs) (ho : ∀ H1, Ex H H1 → Ev ta σ H1 (.ref a)) (hx : H a = some (.ins C dx fs)) (c : Cls K C) (n : NoAttr K C f) (hl : fs.length < 1000)
    (k : ∀ (p : Addr) (S : Hp), SqL K (wn S M) p xs → S a = some (.ins C dx (putF f (.ref p) fs)) → Go M a H S → D.nx σ S) : sFld K ta te f D σ H := s_fldL h ho hx c n hl fun p H1 hp e h1 =>
  k p _ (fresh_l ha kn hp h1) upd_same (Go.up ha kn e)
theorem q_selfU {xs : List V} (ha : M a) (kn : ∀ b, M b → H b ≠ none) (h : EvU te σ H xs) (ho : ∀ H1, Ex H H1 → Ev ta σ H1 (.ref a)) (hx : H a = some (.ins C dx fs)) (c : Cls K C) (n : NoAttr K C f) (hl : fs.length < 1000)
    (k : ∀ (p : Addr) (S : Hp), SqT K (wn S M) p xs → S a = some (.ins C dx (putF f (.ref p) fs)) → Go M a H S → D.nx σ S) : sFld K ta te f D σ H := s_fldU h ho hx c n hl fun p H1 hp e h1 =>
  k p _ (fresh_t ha kn hp h1) upd_same (Go.up ha kn e)
end
variable {P : Program} {w : World} {K : PySem.W.Frag} {mg : Str → Option Value} {base : Heap} {Z : Ad}
theorem ok_Course___init__ (T : Txt K mg Z) : FnOk P w K mg base CX0 4 Z.f_Course___init__ Z.d_Course___init__ p_Course___init__ (sp_Cinit K Z) := by
  refine T.F_Course___init__.ok sc_Course___init__ (fun vs H Q E h => ?_) (fun cdv Ar outer s H vs Q E hr h => ?_)
  · obtain ⟨x, dx, tb, td, bs, ds, life, N, rfl, _⟩ := h
    rfl
  · obtain ⟨x, dx, tb, td, bs, ds, life, N, rfl, hx, hb, hd, gd, l0, l1, hN, nNx, k⟩ := h
    have hM : nx x N x := .inl rfl
    have cl := T.cl_Course
    have hbw : SqT K (wn H (nx x N)) tb (bs.map V.int) := wn_tx hx hb
    have hdw : SqT K (wn H (nx x N)) td (ds.map V.int) := wn_tx hx hd
    have kn0 : ∀ b, nx x N b → H b ≠ none := fun b z q => z.elim (fun e => by rw [e, hx] at q; cases q) fun e => hN b e q
    refine ⟨_, (pss_cons (ps_fld (pv 0) (pv 1) rfl)
      (pss_cons (ps_fld (pv 0) (pv 2) rfl)
      (pss_cons (ps_fld (pv 0) (pe_call (ok_count_keepable T) (hr.mono (by decide)) (by rfl) T.g_count_keepable T.F_count_keepable.kp T.b_count_keepable .nil pass0 (pa_cons (pv 1) (pa_cons (pv 3) pa_nil))) rfl)
      (pss_cons (ps_fld (pv 0) (pe_callB (r := rMax2) (call_max2 rfl) (by rfl) T.b_max boot_max (pa_cons pe_int (pa_cons (pe_op op_sub (pe_callB (r := rSumT K) (cr_sumT rfl) (by rfl) T.b_sum boot_sum (pa_cons (pv 1) pa_nil)) (pe_callB (r := rSumT K) (cr_sumT rfl) (by rfl) T.b_sum boot_sum (pa_cons (pv 2) pa_nil))) pa_nil))) rfl)
      (pss_cons (ps_fld (pv 0) (pe_ix (r := rIxL K) ix_list (pe_meth (pv 0) T.cl_Course T.m_Course__play_round (ok_Course__play_round T) (hr.mono (by decide)) T.b_Course__play_round .nil pass0 (pa_cons pe_int pa_nil)) (pe_un un_neg pe_int) (fun _ _ => rfl)) rfl)
      (pss_cons (ps_fld (pv 0) (pe_ix (r := rIxL K) ix_list (pe_meth (pv 0) T.cl_Course T.m_Course__play_round (ok_Course__play_round T) (hr.mono (by decide)) T.b_Course__play_round .nil pass0 (pa_cons (pe_op op_add (pe_ix (r := rIxL K) ix_list (pe_fldK K rfl (pv 0) rfl) pe_int (fun _ _ => rfl)) (pe_ix (r := rIxT K) ix_tup (pv 2) pe_int (fun _ _ => rfl))) pa_nil)) (pe_un un_neg pe_int) (fun _ _ => rfl)) rfl)
      (pss_cons (ps_fld (pv 0) (pe_meth (pv 0) T.cl_Course T.m_Course__misses_in (ok_Course__misses_in T) (hr.mono (by decide)) T.b_Course__misses_in .nil pass0 (pa_cons pe_int pa_nil)) rfl)
      (pss_one (ps_fld (pv 0) (pe_meth (pv 0) T.cl_Course T.m_Course__misses_in (ok_Course__misses_in T) (hr.mono (by decide)) T.b_Course__misses_in .nil pass0 (pa_cons pe_int pa_nil)) rfl))))))))), ?_⟩
    -- _bakes, _demands, _keepable
    refine q_self hM kn0 (ev_var rfl) (fun _ _ => ev_var rfl) hx cl T.na_Course__bakes (by decide) fun S1 x1 g1 => ?_
    have w1 := g1.ex
    refine q_self hM g1.kn (ev_var rfl) (fun _ _ => ev_var rfl) x1 cl T.na_Course__demands (by show 1 < 1000; decide) fun S2 x2 g2 => ?_
    have w2 := g2.ex
    refine q_selfL hM g2.kn (el_call (vs := [.ref tb, .int life]) (ea_cons (ev_var rfl) (ea_cons (ev_var rfl) ea_nil)) (spl_keep (ex_t ((w1.trans w2).trans wn_ex) hbw) gd.n0 gd.n1 l0 l1)) (fun _ _ => ev_var rfl) x2 cl T.na_Course__keepable (by show 2 < 1000; decide) fun tk S3 hk3 x3 g3 => ?_
    have w3' := g3.ex
    have w3 := (w1.trans w2).trans w3'
    have m0 : CoM bs ds (keepL bs life) := ⟨gd, keepL_len, fun i => keepL_nn gd.b0⟩
    have sb : ∀ {S : Hp}, Ex (wn S (nx x N)) (wn S N) := wn_sub fun b z => .inr z
    have pr : ∀ {S : Hp} {fs : List (Str × V)}, Ex (wn S3 (nx x N)) (wn S (nx x N)) → S x = some (.ins Z.c_Course dx fs) → fs.lookup ("_bakes" : Str) = some (V.ref tb) → fs.lookup ("_demands" : Str) = some (V.ref td) → fs.lookup ("_keepable" : Str) = some (V.ref tk) → fs.lookup ("_play_round" : Str) = none → PR K Z (wn S N) x bs ds (keepL bs life) tb td tk :=
      fun e hx' l1 l2 l3 l4 => by
        have hx : wn _ N x = _ := (wn_ni nNx).trans hx'
        exact ⟨flk_of hx cl T.na_Course__bakes l1, ex_t sb (ex_t e (ex_t w3 hbw)), flk_of hx cl T.na_Course__demands l2, ex_t sb (ex_t e (ex_t w3 hdw)), flk_of hx cl T.na_Course__keepable l3, ex_l sb (ex_l e hk3), ⟨_, _, hx, l4⟩, gd, keepL_len⟩
    -- _gain
    refine q_self hM g3.kn (v := .int (gainOf bs ds)) (ev_maxi ev_c (ev_op (ev_sumT (ev_var rfl) (ex_t wn_ex (ex_t w3 hbw))) (ev_sumT (ev_var rfl) (ex_t wn_ex (ex_t w3 hdw))) rv_I0)) (fun _ _ => ev_var rfl) x3 cl T.na_Course__gain (by show 3 < 1000; decide) fun S4 x4 g4 => ?_
    have w4 := g4.ex
    have p4 := (pr w4 x4 rfl rfl rfl rfl).mono wn_ex
    -- _first_end
    have n1 : (stkL bs ds (keepL bs life) 0).length = bs.length + 1 := stkL_len
    refine q_self hM g4.kn (v := .int (firstOf bs ds (keepL bs life))) (ev_is (ev_ixNL (el_meth (ev_var rfl) p4.nf (ea_cons ev_c ea_nil) (spl_play (s := 0) p4)) (ev_un ev_c ru_neg) (atI_neg1 n1)) (by rw [stkL_get (Nat.le_refl _)]; rfl)) (fun _ _ => ev_var rfl) x4 cl T.na_Course__first_end (by show 4 < 1000; decide) fun S5 x5 g5 => ?_
    have w5 := g5.ex
    have p5 := (pr (w4.trans w5) x5 rfl rfl rfl rfl).mono wn_ex
    -- _full_end
    have n2 : (stkL bs ds (keepL bs life) ((keepL bs life).getD 0 0 + ds.getD 0 0)).length = bs.length + 1 := stkL_len
    have h0 := gd.n0
    have hld := gd.ld
    have fk5 := p5.fk
    refine q_self hM g5.kn (v := .int (fullOf bs ds (keepL bs life))) (ev_is (ev_ixNL (el_meth (ev_var rfl) p5.nf (ea_cons (ev_op (ev_ixL (by walk_at "ev") p5.hk ev_c (atI_mapI (i := 0) (by omega) (by rw [keepL_len]; omega))) (ev_ixT (ev_var rfl) p5.hd ev_c (atI_mapI (i := 0) (by omega) (by omega))) rv_I0) ea_nil) (spl_play p5)) (ev_un ev_c ru_neg) (atI_neg1 n2)) (by rw [stkL_get (Nat.le_refl _)]; rfl)) (fun _ _ => ev_var rfl) x5 cl T.na_Course__full_end (by show 5 < 1000; decide) fun S6 x6 g6 => ?_
    have w6 := g6.ex
    have w46 := (w4.trans w5).trans w6
    have gb := m0.gainb
    have sr : ∀ {S : Hp} {fs : List (Str × V)}, Ex (wn S6 (nx x N)) (wn S (nx x N)) → S x = some (.ins Z.c_Course dx fs) → fs.lookup ("_bakes" : Str) = some (V.ref tb) → fs.lookup ("_demands" : Str) = some (V.ref td) → fs.lookup ("_keepable" : Str) = some (V.ref tk) → fs.lookup ("_play_round" : Str) = none →
        fs.lookup ("_gain" : Str) = some (V.int (gainOf bs ds)) → fs.lookup ("_first_end" : Str) = some (V.int (firstOf bs ds (keepL bs life))) → fs.lookup ("_full_end" : Str) = some (V.int (fullOf bs ds (keepL bs life))) → fs.lookup ("_stocks_in" : Str) = none → SR K Z (wn S N) x bs ds (keepL bs life) tb td tk (gainOf bs ds) (firstOf bs ds (keepL bs life)) (fullOf bs ds (keepL bs life)) :=
      fun e hx' l1 l2 l3 l4 l5 l6 l7 l8 => by
        have hx : wn _ N x = _ := (wn_ni nNx).trans hx'
        exact ⟨pr (w46.trans e) hx' l1 l2 l3 l4, flk_of hx cl T.na_Course__gain l5, flk_of hx cl T.na_Course__first_end l6, flk_of hx cl T.na_Course__full_end l7, ⟨_, _, hx, l8⟩, by omega⟩
    have s6 := (sr (Ex.refl _) x6 rfl rfl rfl rfl rfl rfl rfl rfl).mono wn_ex
    refine q_selfL hM g6.kn (xs := (fmOf bs ds (keepL bs life)).map V.int) (el_meth (ev_var rfl) ⟨_, _, x6, rfl⟩ (ea_cons ev_c ea_nil) (spl_misses (r := 0) s6)) (fun _ _ => ev_var rfl) x6 cl T.na_Course__first_misses (by show 6 < 1000; decide) fun tf S7 hf7 x7 g7 => ?_
    have w7 := g7.ex
    have s7 := (sr w7 x7 rfl rfl rfl rfl rfl rfl rfl rfl).mono wn_ex
    refine s_selfL hM g7.kn (xs := (lmOf bs ds (keepL bs life)).map V.int) (el_meth (ev_var rfl) ⟨_, _, x7, rfl⟩ (ea_cons ev_c ea_nil) (spl_misses (r := 1) s7)) (fun _ _ => ev_var rfl) x7 cl T.na_Course__later_misses (by show 7 < 1000; decide) fun tl S8 hl8 x8 g8 => ?_
    have w8 := g8.ex
    have s8 := sr (w7.trans w8) x8 rfl rfl rfl rfl rfl rfl rfl rfl
    have ll : (lmOf bs ds (keepL bs life)).length = bs.length := by unfold lmOf; rw [missL_len]; exact hld
    have q1 := sum_small (xs := lmOf bs ds (keepL bs life)) (by rw [ll]; exact gd.n1) (m0.miss (r := 1) (by omega))
    have q2 := sum_small gd.n1 gd.b0
    have q3 := sum_small (by have := gd.n1; omega) gd.d0
    have y8 : wn S8 N x = _ := (wn_ni nNx).trans x8
    refine k S8 ⟨⟨tb, td, tk, s8⟩, ⟨tf, flk_of y8 cl T.na_Course__first_misses rfl, ex_l sb (ex_l w8 hf7)⟩, ⟨tl, flk_of y8 cl T.na_Course__later_misses rfl, ex_l sb hl8⟩, ?_, ll, ?_, by omega, by omega, ?_⟩ fun b o hbo hne => ?_
    · unfold fmOf; rw [missL_len]; exact hld
    · omega
    · intro m hm
      refine ⟨_, _, y8, ?_⟩
      simp only [List.mem_cons, List.not_mem_nil, or_false] at hm
      rcases hm with rfl | rfl | rfl | rfl | rfl | rfl | rfl | rfl <;> rfl
    · exact g8.al b o (g7.al b o (g6.al b o (g5.al b o (g4.al b o (g3.al b o (g2.al b o (g1.al b o hbo hne) hne) hne) hne) hne) hne) hne) hne
end Sw
namespace Sw
/-! ### the mathematics of the stock -/
section
variable {bs ds ks : List Int}
/-- what is gained in the first so many days of a round -/
def dlt (bs ds : List Int) : Nat → Int
  | 0 => 0
  | i + 1 => dlt bs ds i + (bs.getD i 0 - ds.getD i 0)
theorem clamp_step {lo hi z b d k : Int} (h0 : 0 ≤ lo) (h1 : lo ≤ hi) (hk : 0 ≤ k) :
    stp (min hi (max lo z)) b d k = min (stp hi b d k) (max (stp lo b d k) (z + (b - d))) := by
  unfold stp; omega
theorem clamp (h : CoM bs ds ks) (i : Nat) (hi : 0 < i) : ∃ lo hi : Int, 0 ≤ lo ∧ lo ≤ hi ∧ (∀ x, stkAt bs ds ks x i = min hi (max lo (x + dlt bs ds i))) ∧ stkAt bs ds ks (ks.getD 0 0 + ds.getD 0 0) i = hi := by
  induction i with
  | zero => omega
  | succ i ih =>
    have hk := h.kn i
    by_cases hi0 : i = 0
    · subst hi0
      have hb := (getD_mem0 (i := 0) h.gd.b0).1
      refine ⟨0, ks.getD 0 0, Int.le_refl _, hk, fun x => ?_, ?_⟩
      · show stp x _ _ _ = _
        unfold stp dlt dlt
        omega
      · show stp _ _ _ _ = _
        unfold stp
        simp only [stkAt]
        omega
    · obtain ⟨lo, hi', a, b, c, d⟩ := ih (by omega)
      refine ⟨stp lo (bs.getD i 0) (ds.getD i 0) (ks.getD i 0), stp hi' (bs.getD i 0) (ds.getD i 0) (ks.getD i 0), stp_nn hk, by unfold stp; omega, fun x => ?_, ?_⟩
      · show stp (stkAt bs ds ks x i) _ _ _ = _
        rw [c x, clamp_step a b hk]
        have e : x + dlt bs ds i + (bs.getD i 0 - ds.getD i 0) = x + dlt bs ds (i + 1) := by
          show _ = x + (dlt bs ds i + _); omega
        rw [e]
      · show stp (stkAt bs ds ks _ i) _ _ _ = _
        rw [d]
theorem sum_take_succ (xs : List Int) (i : Nat) : (xs.take (i + 1)).sum = (xs.take i).sum + xs.getD i 0 := by
  induction xs generalizing i with
  | nil => simp
  | cons a r ih =>
    cases i with
    | zero => simp
    | succ i =>
      have z := ih i
      simp only [List.take_succ_cons, List.sum_cons, List.getD_cons_succ]
      omega
theorem dlt_sum (i : Nat) : dlt bs ds i = (bs.take i).sum - (ds.take i).sum := by
  induction i with
  | zero => simp [dlt]
  | succ i ih => rw [sum_take_succ, sum_take_succ, dlt, ih]; omega
/-- a round: from the stock at its beginning to the one at its end -/
theorem round_clamp (h : CoM bs ds ks) : ∃ lo : Int, 0 ≤ lo ∧ lo ≤ fullOf bs ds ks ∧ ∀ x, stkAt bs ds ks x bs.length = min (fullOf bs ds ks) (max lo (x + (bs.sum - ds.sum))) := by
  obtain ⟨lo, hi, a, b, c, d⟩ := clamp h bs.length h.gd.n0
  have e : fullOf bs ds ks = hi := d
  have q : dlt bs ds bs.length = bs.sum - ds.sum := by
    rw [dlt_sum, List.take_length, ← h.gd.ld, List.take_length]
  rw [e]
  exact ⟨lo, a, b, fun x => by rw [c x, q]⟩
abbrev st (bs ds ks : List Int) (r : Int) : Int := start1 (gainOf bs ds) (firstOf bs ds ks) (fullOf bs ds ks) r
theorem st_zero : st bs ds ks 0 = 0 := by unfold st start1; rw [if_pos rfl]
theorem st_pos {r : Int} (h : r ≠ 0) : st bs ds ks r = min (fullOf bs ds ks) (firstOf bs ds ks + (r - 1) * gainOf bs ds) := by unfold st start1; rw [if_neg h]
theorem st_step (h : CoM bs ds ks) {r : Int} (hr : 0 ≤ r) : st bs ds ks (r + 1) = stkAt bs ds ks (st bs ds ks r) bs.length := by
  obtain ⟨lo, a, b, c⟩ := round_clamp h
  have hf : firstOf bs ds ks = min (fullOf bs ds ks) (max lo (0 + (bs.sum - ds.sum))) := c 0
  rw [st_pos (by omega)]
  by_cases h0 : r = 0
  · subst h0
    rw [st_zero]
    show _ = firstOf bs ds ks
    have e : ((0 : Int) + 1 - 1) * gainOf bs ds = 0 := by simp
    rw [e]; omega
  · rw [st_pos h0, c]
    have e : (r + 1 - 1) * gainOf bs ds = (r - 1) * gainOf bs ds + gainOf bs ds := by
      have : r + 1 - 1 = (r - 1) + 1 := by omega
      rw [this, Int.add_mul, Int.one_mul]
    rw [e]
    have hg : gainOf bs ds = max 0 (bs.sum - ds.sum) := rfl
    have hp : 0 ≤ (r - 1) * gainOf bs ds := Int.mul_nonneg (by omega) (by omega)
    by_cases hd : bs.sum - ds.sum ≤ 0
    · have g0 : gainOf bs ds = 0 := by omega
      rw [g0, Int.mul_zero]
      omega
    · generalize (r - 1) * gainOf bs ds = t at hp
      omega
/-- the days one by one -/
def dayS (bs ds ks : List Int) : Nat → Int
  | 0 => 0
  | t + 1 => stp (dayS bs ds ks t) (bs.getD (t % bs.length) 0) (ds.getD (t % bs.length) 0) (ks.getD (t % bs.length) 0)
theorem dayS_round (h : CoM bs ds ks) (r : Nat) : ∀ i, i ≤ bs.length → dayS bs ds ks (r * bs.length + i) = stkAt bs ds ks (st bs ds ks (r : Int)) i := by
  have hn := h.gd.n0
  induction r with
  | zero =>
    intro i hi
    rw [show ((0 : Nat) : Int) = 0 from rfl, st_zero]
    induction i with
    | zero => simp [dayS, stkAt]
    | succ i ih =>
      have e : (0 * bs.length + i) % bs.length = i := by rw [Nat.zero_mul, Nat.zero_add, Nat.mod_eq_of_lt (by omega)]
      rw [show 0 * bs.length + (i + 1) = (0 * bs.length + i) + 1 by omega]
      show stp (dayS bs ds ks (0 * bs.length + i)) _ _ _ = stp (stkAt bs ds ks 0 i) _ _ _
      rw [e, ih (by omega)]
  | succ r ihr =>
    intro i hi
    induction i with
    | zero =>
      have z := ihr bs.length (Nat.le_refl _)
      rw [← st_step h (by omega)] at z
      rw [show (r + 1) * bs.length + 0 = r * bs.length + bs.length by rw [Nat.add_mul, Nat.one_mul]; omega, z]
      show st bs ds ks ((r : Int) + 1) = st bs ds ks (((r + 1 : Nat)) : Int)
      congr 1
    | succ i ih =>
      have e : ((r + 1) * bs.length + i) % bs.length = i := by rw [Nat.mul_comm, Nat.mul_add_mod, Nat.mod_eq_of_lt (by omega)]
      rw [show (r + 1) * bs.length + (i + 1) = ((r + 1) * bs.length + i) + 1 by omega]
      show stp (dayS bs ds ks ((r + 1) * bs.length + i)) _ _ _ = stp (stkAt bs ds ks _ i) _ _ _
      rw [e, ih (by omega)]
theorem day_split (t n : Nat) (hn : 0 < n) : ((t : Int) / (n : Int)) = ((t / n : Nat) : Int) ∧ ((t : Int) % (n : Int)).toNat = t % n := by
  constructor
  · exact (Int.natCast_ediv t n).symm
  · have := Int.natCast_emod t n; omega
theorem stock_is (h : CoM bs ds ks) (t : Nat) : stockI bs ds ks (gainOf bs ds) (firstOf bs ds ks) (fullOf bs ds ks) (t : Int) = dayS bs ds ks t := by
  have hn := h.gd.n0
  obtain ⟨e1, e2⟩ := day_split t bs.length hn
  unfold stockI
  rw [e1, e2]
  have z := dayS_round h (t / bs.length) (t % bs.length) (Nat.le_of_lt (Nat.mod_lt _ hn))
  rw [show t / bs.length * bs.length + t % bs.length = t by rw [Nat.mul_comm]; exact Nat.div_add_mod _ _] at z
  exact z.symm
theorem end_is (h : CoM bs ds ks) (t : Nat) : endI bs ds ks (gainOf bs ds) (firstOf bs ds ks) (fullOf bs ds ks) (t : Int) = dayS bs ds ks (t + 1) := by
  have hn := h.gd.n0
  obtain ⟨e1, e2⟩ := day_split t bs.length hn
  unfold endI
  rw [e1, e2]
  have z := dayS_round h (t / bs.length) (t % bs.length + 1) (Nat.mod_lt _ hn)
  rw [show t / bs.length * bs.length + (t % bs.length + 1) = t + 1 by have := Nat.div_add_mod t bs.length; rw [Nat.mul_comm]; omega] at z
  exact z.symm
theorem dayS_nn (h : CoM bs ds ks) (t : Nat) : 0 ≤ dayS bs ds ks t := by
  cases t with
  | zero => exact Int.le_refl _
  | succ t => exact stp_nn (h.kn _)
/-- the stock is never less than a round before -/
theorem dayS_le (h : CoM bs ds ks) (t : Nat) : dayS bs ds ks t ≤ dayS bs ds ks (t + bs.length) := by
  induction t with
  | zero => exact dayS_nn h _
  | succ t ih =>
    rw [show t + 1 + bs.length = (t + bs.length) + 1 by omega]
    show stp _ _ _ _ ≤ stp _ _ _ _
    rw [Nat.add_mod_right]
    unfold stp; omega
theorem dayS_same {t : Nat} (e : dayS bs ds ks t = dayS bs ds ks (t + bs.length)) (u : Nat) : dayS bs ds ks (t + u) = dayS bs ds ks (t + u + bs.length) := by
  induction u with
  | zero => exact e
  | succ u ih =>
    rw [show t + (u + 1) + bs.length = (t + u + bs.length) + 1 by omega, show t + (u + 1) = (t + u) + 1 by omega]
    show stp _ _ _ _ = stp _ _ _ _
    rw [Nat.add_mod_right, ih]
/-! ### the settled day -/
theorem least {p : Nat → Prop} : ∀ n, p n → ∃ m, m ≤ n ∧ p m ∧ ∀ j, j < m → ¬ p j := by
  intro n
  induction n using Nat.strongRecOn with
  | ind n ih =>
    intro hp
    by_cases q : ∃ j, j < n ∧ p j
    · obtain ⟨j, hj, hpj⟩ := q
      obtain ⟨m, a, b, c⟩ := ih j hj hpj
      exact ⟨m, by omega, b, c⟩
    · exact ⟨n, Nat.le_refl _, hp, fun j hj hpj => q ⟨j, hj, hpj⟩⟩
abbrev grw (bs ds ks : List Int) : Int := growing (gainOf bs ds) (firstOf bs ds ks) (fullOf bs ds ks)
theorem first_le (h : CoM bs ds ks) : firstOf bs ds ks ≤ fullOf bs ds ks := by
  obtain ⟨lo, a, b, c⟩ := round_clamp h
  have hf : firstOf bs ds ks = min (fullOf bs ds ks) (max lo (0 + (bs.sum - ds.sum))) := c 0
  omega
/-- how the growing rounds are counted -/
theorem grw_props (h : CoM bs ds ks) : 0 ≤ grw bs ds ks ∧ fullOf bs ds ks ≤ firstOf bs ds ks + grw bs ds ks * gainOf bs ds ∨ gainOf bs ds = 0 ∧ grw bs ds ks = 0 := by
  have hg := h.gainb.1
  have hl := first_le h
  by_cases g0 : gainOf bs ds = 0
  · exact .inr ⟨g0, by unfold grw growing; rw [if_pos g0]⟩
  · left
    have gp : 0 < gainOf bs ds := by omega
    unfold grw growing
    rw [if_neg g0]
    have e := Int.ediv_mul_le (firstOf bs ds ks - fullOf bs ds ks) g0
    have q : (firstOf bs ds ks - fullOf bs ds ks) / gainOf bs ds ≤ 0 := by
      have := Int.ediv_le_ediv gp (show firstOf bs ds ks - fullOf bs ds ks ≤ 0 by omega)
      simpa using this
    rw [Int.neg_mul]
    omega
theorem grw_nn (h : CoM bs ds ks) : 0 ≤ grw bs ds ks := by
  rcases grw_props h with z | z <;> omega
theorem grw_end (h : CoM bs ds ks) : st bs ds ks (grw bs ds ks + 1) = st bs ds ks (grw bs ds ks + 2) := by
  have hn := grw_nn h
  rw [st_pos (by omega), st_pos (by omega)]
  rw [show grw bs ds ks + 1 - 1 = grw bs ds ks by omega, show grw bs ds ks + 2 - 1 = grw bs ds ks + 1 by omega, Int.add_mul, Int.one_mul]
  have hg := h.gainb.1
  rcases grw_props h with z | z
  · generalize grw bs ds ks * gainOf bs ds = t at z ⊢
    omega
  · rw [z.1]; simp
theorem set_ex (h : CoM bs ds ks) : ∃ i, SetAt bs ds ks (gainOf bs ds) (firstOf bs ds ks) (fullOf bs ds ks) i := by
  have hn := grw_nn h
  have e : stkAt bs ds ks (st bs ds ks (grw bs ds ks)) bs.length = stkAt bs ds ks (st bs ds ks (grw bs ds ks + 1)) bs.length := by
    rw [← st_step h hn, ← st_step h (by omega)]
    rw [show grw bs ds ks + 1 + 1 = grw bs ds ks + 2 by omega]
    exact grw_end h
  obtain ⟨m, a, b, c⟩ := least (p := fun i => stkAt bs ds ks (st bs ds ks (grw bs ds ks)) i = stkAt bs ds ks (st bs ds ks (grw bs ds ks + 1)) i) bs.length e
  exact ⟨m, a, b, c⟩
end
end Sw
namespace Sw
section
variable {bs ds ks : List Int}
/-! ### from the settled day on -/
theorem settled_same (h : CoM bs ds ks) {i : Nat} (hi : SetAt bs ds ks (gainOf bs ds) (firstOf bs ds ks) (fullOf bs ds ks) i) {t : Nat} (ht : grw bs ds ks * (bs.length : Int) + (i : Int) ≤ (t : Int)) :
    dayS bs ds ks t = dayS bs ds ks (t + bs.length) := by
  have hn := grw_nn h
  obtain ⟨R, hR⟩ : ∃ R : Nat, grw bs ds ks = (R : Int) := ⟨(grw bs ds ks).toNat, by omega⟩
  obtain ⟨a, b, c⟩ := hi
  change stkAt bs ds ks (st bs ds ks (grw bs ds ks)) i = stkAt bs ds ks (st bs ds ks (grw bs ds ks + 1)) i at b
  rw [hR] at b ht
  rw [← dayS_round h R i a, show ((R : Int) + 1) = ((R + 1 : Nat) : Int) by omega, ← dayS_round h (R + 1) i a, show (R + 1) * bs.length + i = R * bs.length + i + bs.length by rw [Nat.add_mul, Nat.one_mul]; omega] at b
  have e : (R : Int) * (bs.length : Int) = ((R * bs.length : Nat) : Int) := by rw [Int.natCast_mul]
  rw [e] at ht
  obtain ⟨u, rfl⟩ : ∃ u, t = R * bs.length + i + u := ⟨t - (R * bs.length + i), by omega⟩
  exact dayS_same b u
theorem settled_least (h : CoM bs ds ks) {i : Nat} (hi : SetAt bs ds ks (gainOf bs ds) (firstOf bs ds ks) (fullOf bs ds ks) i) {t : Nat} (ht : grw bs ds ks * (bs.length : Int) + (i : Int) = (t : Int) + 1) :
    dayS bs ds ks t ≠ dayS bs ds ks (t + bs.length) := by
  have hn := grw_nn h
  obtain ⟨R, hR⟩ : ∃ R : Nat, grw bs ds ks = (R : Int) := ⟨(grw bs ds ks).toNat, by omega⟩
  obtain ⟨a, b, c⟩ := hi
  change stkAt bs ds ks (st bs ds ks (grw bs ds ks)) i = stkAt bs ds ks (st bs ds ks (grw bs ds ks + 1)) i at b
  have e : (R : Int) * (bs.length : Int) = ((R * bs.length : Nat) : Int) := by rw [Int.natCast_mul]
  rw [hR, e] at ht
  cases i with
  | succ i =>
    have q := c i (Nat.lt_succ_self i)
    change stkAt bs ds ks (st bs ds ks (grw bs ds ks)) i ≠ stkAt bs ds ks (st bs ds ks (grw bs ds ks + 1)) i at q
    rw [hR, ← dayS_round h R i (by omega), show ((R : Int) + 1) = ((R + 1 : Nat) : Int) by omega, ← dayS_round h (R + 1) i (by omega), show (R + 1) * bs.length + i = R * bs.length + i + bs.length by rw [Nat.add_mul, Nat.one_mul]; omega] at q
    rwa [show t = R * bs.length + i by omega]
  | zero =>
    exfalso
    have b' : st bs ds ks (grw bs ds ks) = st bs ds ks (grw bs ds ks + 1) := b
    have hg := h.gainb.1
    have hl := first_le h
    have hR0 : R ≠ 0 := by
      intro z; subst z
      simp at ht; omega
    have g0 : ¬ gainOf bs ds = 0 := by
      intro z
      have : grw bs ds ks = 0 := by unfold grw growing; rw [if_pos z]
      omega
    have gp : 0 < gainOf bs ds := by omega
    rw [st_pos (by omega), st_pos (by omega), show grw bs ds ks + 1 - 1 = grw bs ds ks by omega, Int.sub_mul, Int.one_mul] at b'
    have ee : grw bs ds ks = -((firstOf bs ds ks - fullOf bs ds ks) / gainOf bs ds) := by unfold grw growing; rw [if_neg g0]
    have q1 := Int.lt_ediv_add_one_mul_self (firstOf bs ds ks - fullOf bs ds ks) gp
    have q2 : grw bs ds ks * gainOf bs ds = -((firstOf bs ds ks - fullOf bs ds ks) / gainOf bs ds * gainOf bs ds) := by rw [ee, Int.neg_mul]
    rw [Int.add_mul, Int.one_mul] at q1
    rcases grw_props h with z | z
    · generalize grw bs ds ks * gainOf bs ds = t1 at *
      generalize (firstOf bs ds ks - fullOf bs ds ks) / gainOf bs ds * gainOf bs ds = t2 at *
      omega
    · omega
/-! ### sums over days -/
def psum (f : Nat → Int) : Nat → Int
  | 0 => 0
  | t + 1 => psum f t + f t
theorem psum_add (f : Nat → Int) (a b : Nat) : psum f (a + b) = psum f a + psum (fun j => f (a + j)) b := by
  induction b with
  | zero => simp [psum]
  | succ b ih =>
    show psum f (a + b) + f (a + b) = _
    rw [ih]
    show _ = psum f a + (psum (fun j => f (a + j)) b + f (a + b))
    omega
theorem psum_congr {f g : Nat → Int} {n : Nat} (h : ∀ j, j < n → f j = g j) : psum f n = psum g n := by
  induction n with
  | zero => rfl
  | succ n ih =>
    show psum f n + f n = psum g n + g n
    rw [ih fun j hj => h j (by omega), h n (by omega)]
theorem psum_zero (n : Nat) : psum (fun _ => 0) n = 0 := by
  induction n with
  | zero => rfl
  | succ n ih => show psum _ n + 0 = 0; rw [ih]; rfl
theorem psum_sub (f g : Nat → Int) (n : Nat) : psum (fun j => f j - g j) n = psum f n - psum g n := by
  induction n with
  | zero => simp [psum]
  | succ n ih => show psum _ n + (f n - g n) = psum f n + f n - (psum g n + g n); rw [ih]; omega
theorem psum_take (xs : List Int) : ∀ n, (xs.take n).sum = psum (fun j => xs.getD j 0) n := by
  intro n
  induction n with
  | zero => simp [psum]
  | succ n ih => rw [sum_take_succ, ih]; rfl
theorem psum_sum (xs : List Int) : psum (fun j => xs.getD j 0) xs.length = xs.sum := by rw [← psum_take, List.take_length]
/-- a function that repeats after n, summed up over windows of n -/
theorem window {f : Nat → Int} {n a : Nat} (hf : ∀ t, a ≤ t → f (t + n) = f t) (u : Nat) : psum (fun j => f (a + u + j)) n = psum (fun j => f (a + j)) n := by
  induction u with
  | zero => rfl
  | succ u ih =>
    have e1 := psum_add (fun j => f (a + u + j)) 1 n
    have e2 := psum_add (fun j => f (a + u + j)) n 1
    rw [Nat.add_comm 1 n] at e1
    have e3 : psum (fun j => f (a + u + j)) 1 = f (a + u) := by show 0 + f (a + u + 0) = _; simp
    have e4 : psum (fun j => f (a + u + (n + j))) 1 = f (a + u + n) := by show 0 + f (a + u + (n + 0)) = _; simp
    have e5 : psum (fun j => f (a + u + (1 + j))) n = psum (fun j => f (a + (u + 1) + j)) n := psum_congr fun j _ => by congr 1; omega
    have e6 := hf (a + u) (by omega)
    rw [e3, e5] at e1
    rw [e4] at e2
    omega
theorem rounds_psum {f : Nat → Int} {n a : Nat} (hf : ∀ t, a ≤ t → f (t + n) = f t) (T : Nat) : psum f (a + T * n) = psum f a + (T : Int) * psum (fun j => f (a + j)) n := by
  induction T with
  | zero => simp
  | succ T ih =>
    rw [show a + (T + 1) * n = (a + T * n) + n by rw [Nat.add_mul, Nat.one_mul]; omega, psum_add, ih]
    have := window hf (T * n)
    rw [this]
    have : ((T + 1 : Nat) : Int) = (T : Int) + 1 := by omega
    rw [this, Int.add_mul, Int.one_mul]
    omega
theorem sumRep_psum (am : List Int) (h : 0 < am.length) (m : Nat) : sumRep am (m : Int) = psum (fun j => am.getD (j % am.length) 0) m := by
  obtain ⟨e1, e2⟩ := day_split m am.length h
  unfold sumRep
  rw [e1, e2]
  have hp : ∀ t, 0 ≤ t → (fun j => am.getD (j % am.length) 0) (t + am.length) = (fun j => am.getD (j % am.length) 0) t := fun t _ => by simp [Nat.add_mod_right]
  have z := rounds_psum (f := fun j => am.getD (j % am.length) 0) (n := am.length) (a := 0) hp (m / am.length)
  have e : m = (0 + m / am.length * am.length) + m % am.length := by have := Nat.div_add_mod m am.length; rw [Nat.mul_comm] at this; omega
  have w : psum (fun j => am.getD (j % am.length) 0) m = psum (fun j => am.getD (j % am.length) 0) (0 + m / am.length * am.length) + psum (fun j => (fun j => am.getD (j % am.length) 0) (0 + m / am.length * am.length + j)) (m % am.length) := by
    rw [← psum_add, ← e]
  rw [w, z]
  have q1 : psum (fun j => (fun j => am.getD (j % am.length) 0) (0 + j)) am.length = am.sum := by
    rw [← psum_sum]
    exact psum_congr fun j hj => by simp [Nat.mod_eq_of_lt hj]
  have q2 : psum (fun j => (fun j => am.getD (j % am.length) 0) (0 + m / am.length * am.length + j)) (m % am.length) = (am.take (m % am.length)).sum := by
    rw [psum_take]
    refine psum_congr fun j hj => ?_
    have hlt := Nat.mod_lt m h
    show am.getD ((0 + m / am.length * am.length + j) % am.length) 0 = _
    rw [Nat.zero_add, Nat.mul_comm, Nat.mul_add_mod, Nat.mod_eq_of_lt (by omega)]
  rw [q1, q2]
  show _ = 0 + _ + _
  omega
/-! ### a day's sales -/
def bk (bs : List Int) (t : Nat) : Int := bs.getD (t % bs.length) 0
def dm (bs ds : List Int) (t : Nat) : Int := ds.getD (t % bs.length) 0
def misS (bs ds ks : List Int) (t : Nat) : Int := max 0 (dm bs ds t - dayS bs ds ks t - bk bs t)
def solS (bs ds ks : List Int) (t : Nat) : Int := dm bs ds t - misS bs ds ks t
def thrS (bs ds ks : List Int) (t : Nat) : Int := bk bs t - solS bs ds ks t - (dayS bs ds ks (t + 1) - dayS bs ds ks t)
theorem sales_is (h : CoM bs ds ks) (t : Nat) : salesI bs ds ks (gainOf bs ds) (firstOf bs ds ks) (fullOf bs ds ks) (t : Int) = [solS bs ds ks t, misS bs ds ks t, thrS bs ds ks t] := by
  have hn := h.gd.n0
  obtain ⟨e1, e2⟩ := day_split t bs.length hn
  have es : soldI bs ds ks (gainOf bs ds) (firstOf bs ds ks) (fullOf bs ds ks) (t : Int) = solS bs ds ks t := by
    unfold soldI
    rw [stock_is h, e2]
    unfold solS misS dm bk
    omega
  unfold salesI
  rw [es, stock_is h, end_is h, e2]
  unfold thrS
  congr 1
  congr 1
  · unfold solS dm; omega
  · congr 1
    unfold bk
    omega
theorem misS_le (h : CoM bs ds ks) (t : Nat) : misS bs ds ks (t + bs.length) ≤ misS bs ds ks t := by
  have z := dayS_le h t
  unfold misS dm bk
  rw [Nat.add_mod_right]
  omega
/-- behind the first round each round misses the same -/
theorem misS_round (h : CoM bs ds ks) {t : Nat} (ht : bs.length ≤ t) : misS bs ds ks (t + bs.length) = misS bs ds ks t := by
  have z := misS_le h t
  have m0 : 0 ≤ misS bs ds ks (t + bs.length) := by unfold misS; omega
  by_cases hm : misS bs ds ks t ≤ 0
  · omega
  · obtain ⟨u, rfl⟩ : ∃ u, t = u + bs.length := ⟨t - bs.length, by omega⟩
    have e1 : dayS bs ds ks (u + bs.length + 1) = 0 := by
      show stp _ _ _ _ = 0
      have := h.kn ((u + bs.length) % bs.length)
      unfold misS dm bk at hm
      unfold stp
      omega
    have e2 := dayS_le h (u + 1)
    have e3 := dayS_nn h (u + 1)
    rw [show u + 1 + bs.length = u + bs.length + 1 by omega, e1] at e2
    have e4 : dayS bs ds ks (u + 1) = dayS bs ds ks (u + 1 + bs.length) := by rw [show u + 1 + bs.length = u + bs.length + 1 by omega, e1]; omega
    have hn := h.gd.n0
    have e5 := dayS_same e4 (bs.length - 1)
    rw [show u + 1 + (bs.length - 1) = u + bs.length by omega] at e5
    unfold misS dm bk
    rw [Nat.add_mod_right, ← e5]
theorem fm_get (h : CoM bs ds ks) {j : Nat} (hj : j < bs.length) : (fmOf bs ds ks).getD j 0 = misS bs ds ks j := by
  unfold fmOf missL
  have hl := h.gd.ld
  have e : ((List.range ds.length).map fun i => max 0 (ds.getD i 0 - (stkL bs ds ks (start1 (gainOf bs ds) (firstOf bs ds ks) (fullOf bs ds ks) 0)).getD i 0 - bs.getD i 0)).getD j 0 =
      max 0 (ds.getD j 0 - (stkL bs ds ks (start1 (gainOf bs ds) (firstOf bs ds ks) (fullOf bs ds ks) 0)).getD j 0 - bs.getD j 0) := by
    simp [List.getD, List.getElem?_range (show j < ds.length by omega)]
  rw [e, stkL_get (by omega)]
  have q := dayS_round h 0 j (by omega)
  rw [Nat.zero_mul, Nat.zero_add] at q
  have q' : stkAt bs ds ks (start1 (gainOf bs ds) (firstOf bs ds ks) (fullOf bs ds ks) 0) j = dayS bs ds ks j := q.symm
  rw [q']
  unfold misS dm bk
  rw [Nat.mod_eq_of_lt hj]
theorem lm_get (h : CoM bs ds ks) {j : Nat} (hj : j < bs.length) : (lmOf bs ds ks).getD j 0 = misS bs ds ks (bs.length + j) := by
  unfold lmOf missL
  have hl := h.gd.ld
  have e : ((List.range ds.length).map fun i => max 0 (ds.getD i 0 - (stkL bs ds ks (start1 (gainOf bs ds) (firstOf bs ds ks) (fullOf bs ds ks) 1)).getD i 0 - bs.getD i 0)).getD j 0 =
      max 0 (ds.getD j 0 - (stkL bs ds ks (start1 (gainOf bs ds) (firstOf bs ds ks) (fullOf bs ds ks) 1)).getD j 0 - bs.getD j 0) := by
    simp [List.getD, List.getElem?_range (show j < ds.length by omega)]
  rw [e, stkL_get (by omega)]
  have q := dayS_round h 1 j (by omega)
  rw [Nat.one_mul] at q
  have q' : stkAt bs ds ks (start1 (gainOf bs ds) (firstOf bs ds ks) (fullOf bs ds ks) 1) j = dayS bs ds ks (bs.length + j) := q.symm
  rw [q']
  unfold misS dm bk
  rw [Nat.add_mod_left, Nat.mod_eq_of_lt hj]
theorem fm_len (h : CoM bs ds ks) : (fmOf bs ds ks).length = bs.length := by unfold fmOf; rw [missL_len]; exact h.gd.ld
theorem lm_len (h : CoM bs ds ks) : (lmOf bs ds ks).length = bs.length := by unfold lmOf; rw [missL_len]; exact h.gd.ld
theorem lm_sum (h : CoM bs ds ks) : (lmOf bs ds ks).sum = psum (fun j => misS bs ds ks (bs.length + j)) bs.length := by
  rw [← psum_sum, lm_len h]
  exact psum_congr fun j hj => lm_get h hj
theorem missed_is (h : CoM bs ds ks) (t : Nat) : missedI bs (fmOf bs ds ks) (lmOf bs ds ks) (t : Int) = psum (misS bs ds ks) t := by
  have hn := h.gd.n0
  unfold missedI
  rw [Int.toNat_natCast, psum_take]
  by_cases ht : t ≤ bs.length
  · have e : max 0 ((t : Int) - (bs.length : Int)) = ((0 : Nat) : Int) := by omega
    rw [e, sumRep_psum _ (by rw [lm_len h]; exact hn)]
    show _ + 0 = _
    rw [Int.add_zero]
    exact psum_congr fun j hj => fm_get h (by omega)
  · obtain ⟨u, rfl⟩ : ∃ u, t = bs.length + u := ⟨t - bs.length, by omega⟩
    have e : max 0 (((bs.length + u : Nat) : Int) - (bs.length : Int)) = (u : Int) := by omega
    rw [e, sumRep_psum _ (by rw [lm_len h]; exact hn), psum_add, psum_add]
    have z1 : psum (fun j => (fmOf bs ds ks).getD j 0) bs.length = psum (misS bs ds ks) bs.length := psum_congr fun j hj => fm_get h hj
    have z2 : psum (fun j => (fmOf bs ds ks).getD (bs.length + j) 0) u = 0 := by
      have : psum (fun j => (fmOf bs ds ks).getD (bs.length + j) 0) u = psum (fun _ => 0) u := psum_congr fun j _ => by
        simp [List.getD, List.getElem?_eq_none (show (fmOf bs ds ks).length ≤ bs.length + j by rw [fm_len h]; omega)]
      rw [this, psum_zero]
    have z3 : psum (fun j => (lmOf bs ds ks).getD (j % (lmOf bs ds ks).length) 0) u = psum (fun j => misS bs ds ks (bs.length + j)) u := by
      refine psum_congr fun j _ => ?_
      rw [lm_len h, lm_get h (Nat.mod_lt _ hn)]
      have q : ∀ k r, misS bs ds ks (bs.length + (r + k * bs.length)) = misS bs ds ks (bs.length + r) := by
        intro k r
        induction k with
        | zero => simp
        | succ k ih =>
          rw [show bs.length + (r + (k + 1) * bs.length) = bs.length + (r + k * bs.length) + bs.length by rw [Nat.add_mul, Nat.one_mul]; omega, misS_round h (by omega), ih]
      have w := q (j / bs.length) (j % bs.length)
      rw [show j % bs.length + j / bs.length * bs.length = j by rw [Nat.mul_comm]; exact Nat.mod_add_div _ _] at w
      exact w.symm
    rw [z1, z2, z3]; omega
theorem bk_sum (h : CoM bs ds ks) (t : Nat) : sumRep bs (t : Int) = psum (bk bs) t := sumRep_psum bs h.gd.n0 t
theorem dm_sum (h : CoM bs ds ks) (t : Nat) : sumRep ds (t : Int) = psum (dm bs ds) t := by
  rw [sumRep_psum ds (by have := h.gd.n0; have := h.gd.ld; omega) t]
  exact psum_congr fun j _ => by unfold dm; rw [h.gd.ld]
theorem thr_sum (t : Nat) : psum (thrS bs ds ks) t = psum (bk bs) t - psum (solS bs ds ks) t - dayS bs ds ks t := by
  induction t with
  | zero => simp [psum, dayS]
  | succ t ih => show psum _ t + thrS bs ds ks t = (psum _ t + bk bs t) - (psum _ t + solS bs ds ks t) - _; rw [ih]; unfold thrS; omega
/-- totals are the sums of the days -/
theorem tot_is (h : CoM bs ds ks) (t : Nat) : totI bs ds ks (gainOf bs ds) (firstOf bs ds ks) (fullOf bs ds ks) (fmOf bs ds ks) (lmOf bs ds ks) (t : Int) =
    [psum (solS bs ds ks) t, psum (misS bs ds ks) t, psum (thrS bs ds ks) t] := by
  have e : psum (solS bs ds ks) t = psum (dm bs ds) t - psum (misS bs ds ks) t := psum_sub _ _ _
  unfold totI
  rw [missed_is h, dm_sum h, bk_sum h, stock_is h, thr_sum, e]
/-! ### the long run -/
theorem long_is (h : CoM bs ds ks) {D : Nat} (hD : ∀ t, D ≤ t → dayS bs ds ks t = dayS bs ds ks (t + bs.length)) :
    longI bs ds (lmOf bs ds ks) = [psum (fun j => solS bs ds ks (D + j)) bs.length, psum (fun j => misS bs ds ks (D + j)) bs.length, psum (fun j => thrS bs ds ks (D + j)) bs.length] := by
  have hmD : ∀ t, D ≤ t → misS bs ds ks (t + bs.length) = misS bs ds ks t := fun t ht => by
    unfold misS dm bk; rw [Nat.add_mod_right, ← hD t ht]
  have hmN : ∀ t, bs.length ≤ t → misS bs ds ks (t + bs.length) = misS bs ds ks t := fun t ht => misS_round h ht
  have m1 := window hmD bs.length
  have m2 := window hmN D
  rw [Nat.add_comm D] at m1
  have em : psum (fun j => misS bs ds ks (D + j)) bs.length = (lmOf bs ds ks).sum := by rw [lm_sum h, ← m1, ← m2]
  have hb : ∀ t, 0 ≤ t → bk bs (t + bs.length) = bk bs t := fun t _ => by unfold bk; rw [Nat.add_mod_right]
  have hd : ∀ t, 0 ≤ t → dm bs ds (t + bs.length) = dm bs ds t := fun t _ => by unfold dm; rw [Nat.add_mod_right]
  have b1 := window (n := bs.length) (a := 0) hb D
  have d1 := window (n := bs.length) (a := 0) hd D
  simp only [Nat.zero_add] at b1 d1
  have b2 : psum (fun j => bk bs j) bs.length = bs.sum := by rw [← psum_sum]; exact psum_congr fun j hj => by unfold bk; rw [Nat.mod_eq_of_lt hj]
  have d2 : psum (fun j => dm bs ds j) bs.length = ds.sum := by
    rw [← psum_sum, h.gd.ld]; exact psum_congr fun j hj => by unfold dm; rw [Nat.mod_eq_of_lt hj]
  have es : psum (fun j => solS bs ds ks (D + j)) bs.length = ds.sum - (lmOf bs ds ks).sum := by
    have : psum (fun j => solS bs ds ks (D + j)) bs.length = psum (fun j => dm bs ds (D + j)) bs.length - psum (fun j => misS bs ds ks (D + j)) bs.length := psum_sub _ _ _
    rw [this, em, d1, d2]
  have et : psum (fun j => thrS bs ds ks (D + j)) bs.length = bs.sum - (ds.sum - (lmOf bs ds ks).sum) := by
    have t1 := psum_add (thrS bs ds ks) D bs.length
    rw [thr_sum, thr_sum, psum_add, psum_add] at t1
    rw [← hD D (Nat.le_refl _), es, b1, b2] at t1
    omega
  unfold longI
  rw [em, es, et]
end
end Sw
namespace Sw
open PySem PySem.Spec PyProof.Rows L2 Evl
local macro_rules | `(tactic| walk_at "ev") => `(tactic| first
  | exact ev_c
  | exact ev_var rfl
  | ((with_reducible show Ev (tCB rMax2 _) _ _ _); exact ev_maxi (by walk_at "ev") (by walk_at "ev"))
  | ((with_reducible show Ev (tCB rMn _) _ _ _); exact ev_min2 (by walk_at "ev") (by walk_at "ev"))
  | ((with_reducible show Ev (tUn _ _) _ _ _); exact ev_un (by walk_at "ev") ru_neg)
  | ((with_reducible show Ev (tFld _ _ _) _ _ _); exact ev_fldK (by walk_at "ev") (by assumption))
  | ((with_reducible show Ev (tOp (rI0 _) _ _) _ _ _); exact ev_op (by walk_at "ev") (by walk_at "ev") rv_I0)
  | ((with_reducible show Ev (tOp rEq _ _) _ _ _); exact ev_op (by walk_at "ev") (by walk_at "ev") (rv_eq rfl))
  | ((with_reducible show Ev (tOp rNe _ _) _ _ _); exact ev_op (by walk_at "ev") (by walk_at "ev") (rv_ne rfl)))

section
variable {K : PySem.W.Frag} {σ : L2.St} {H H' : Hp} {ta tb te tx : TE} {x y z v : V} {a c : Addr} {xs : List V}
theorem ev_cval {C : Addr} {mc u : Value} {f : Str} (h : Ev ta σ H (.ref C)) (hc : ClX.CRead K C mc) (cv : ClX.CVal K C mc f v u) : Ev (ClX.tCVal K ta f) σ H v := fun H1 e Q q =>
  h H1 e _ fun H2 e2 => ⟨C, mc, v, u, rfl, hc, cv, q H2 e2⟩
def rTupS (K : PySem.W.Frag) : List V → Hp → VK → Prop := fun xs H Q => ∃ p ys, xs = [.ref p] ∧ ((SqL K H p ys ∧ ∀ l, H l = none → Q (.ref l) (upd H l (.tup ys))) ∨ (SqT K H p ys ∧ Q (.ref p) H))
theorem ev_tupT (h : Ev ta σ H (.ref a)) (hx : SqT K H a xs) : Ev (tCB (rTupS K) (tCons ta tNil)) σ H (.ref a) := fun H1 e Q q =>
  h H1 e _ fun H2 e2 => ⟨a, xs, rfl, .inr ⟨ex_t (e.trans e2) hx, q H2 e2⟩⟩
theorem eu_tupL (h : EvL ta σ H xs) : EvU (tCB (rTupS K) (tCons ta tNil)) σ H xs := fun H1 e Q q =>
  h H1 e _ fun p H2 _ e2 h2 => ⟨p, xs, rfl, .inl ⟨sq_of h2, fun l hl => q l _ (fresh_back e2 hl) (e2.trans (Ex.new hl)) upd_same⟩⟩
/-- what is handed back is some new object with P, seen apart from what M names -/
def EvR (te : TE) (σ : L2.St) (H : Hp) (M : Addr → Prop) (P : Addr → Hp → Prop) : Prop := ∀ H1, Ex H H1 → (∀ b, M b → H1 b ≠ none) → ∀ Q : VK, (∀ p H2, H1 p = none → Ex H1 H2 → P p (wn H2 M) → Q (.ref p) H2) → te σ H1 Q
end
theorem q_selfR {K : PySem.W.Frag} {σ : L2.St} {H : Hp} {ta te : TE} {a C dx : Addr} {fs : List (Str × V)} {f : Str} {D : Ends} {tz : TS} {M : Addr → Prop} {Pr : Addr → Hp → Prop} (ha : M a) (kn : ∀ b, M b → H b ≠ none) (h : EvR te σ H M Pr) (ho : ∀ H1, Ex H H1 → Ev ta σ H1 (.ref a)) (hx : H a = some (.ins C dx fs)) (c : Cls K C) (n : NoAttr K C f) (hl : fs.length < 1000)
    (hm : ∀ p H1 H2, Ex H1 H2 → Pr p H1 → Pr p H2)
    (k : ∀ (p : Addr) (S : Hp), Pr p (wn S M) → S a = some (.ins C dx (putF f (.ref p) fs)) → Go M a H S → tz D σ S) : tSeq (sFld K ta te f) tz D σ H :=
  h H (Ex.refl H) kn _ fun p H1 hp e1 hP => ho H1 e1 H1 (Ex.refl H1) _ fun H2 e2 => ⟨a, C, dx, fs, rfl, e2 _ _ (e1 _ _ hx), c, n, hl,
    k p _ (hm _ _ _ ((wn_mono e2).trans (wn_upd ha)) hP) upd_same (Go.up ha kn (e1.trans e2))⟩
/-! ### the checks, where nothing is wrong -/
variable {P : Program} {w : World} {K : PySem.W.Frag} {mg : Str → Option Value} {base : Heap} {Z : Ad}
def sp_num : Sp := fun vs H Q _ => ∃ n lo hi : Int, vs = [.int n, .int lo, .int hi] ∧ lo ≤ n ∧ n ≤ hi ∧ RetV .non H Q
theorem spv_num {H : Hp} {n lo hi : Int} (h1 : lo ≤ n) (h2 : n ≤ hi) : SpV sp_num [.int n, .int lo, .int hi] H .non := fun _ _ _ q _ => ⟨n, lo, hi, rfl, h1, h2, q⟩
theorem ok_check_number (T : Txt K mg Z) : FnOk P w K mg base CX0 1 Z.f_check_number Z.d_check_number p_check_number sp_num := by
  refine T.F_check_number.ok sc_check_number (fun vs H Q E h => ?_) (fun cdv Ar outer s H vs Q E hr h => ?_)
  · obtain ⟨n, lo, hi, rfl, _⟩ := h
    rfl
  · obtain ⟨n, lo, hi, rfl, h1, h2, k⟩ := h
    refine ⟨_, (pss_one (ps_if (PW.pt (pw_or (pt_cmpR op_lt (pv 0) (pv 1) (nomark _)) (pw_or1 (pt_cmpR op_gt (pv 0) (pv 2) (nomark _))))) (pss_one ps_no) pss_nil)), ?_⟩
    refine s_when (b := false) (et_is (et_or (et_test (by walk_at "ev")) fun _ => et_test (by walk_at "ev")) (by simp; omega)) (fun hb => nomatch hb) fun _ H1 e1 => k H1 e1
def sp_amounts (K : PySem.W.Frag) : Sp := fun vs H Q _ => ∃ (s : Str) (a : Addr) (am : List Int), vs = [.str s, .ref a] ∧ SqT K H a (am.map V.int) ∧ am.length ≤ 24 ∧ (∀ x ∈ am, 0 ≤ x ∧ x ≤ 1000000000) ∧ RetV .non H Q
theorem spv_amounts {H : Hp} {s : Str} {a : Addr} {am : List Int} (h : SqT K H a (am.map V.int)) (h1 : am.length ≤ 24) (h2 : ∀ x ∈ am, 0 ≤ x ∧ x ≤ 1000000000) : SpV (sp_amounts K) [.str s, .ref a] H .non := fun _ e _ q _ => ⟨s, a, am, rfl, ex_t e h, h1, h2, q⟩
theorem ok_check_amounts (T : Txt K mg Z) : FnOk P w K mg base CX0 1 Z.f_check_amounts Z.d_check_amounts p_check_amounts (sp_amounts K) := by
  refine T.F_check_amounts.ok sc_check_amounts (fun vs H Q E h => ?_) (fun cdv Ar outer s H vs Q E hr h => ?_)
  · obtain ⟨s, a, am, rfl, _⟩ := h
    rfl
  · obtain ⟨s, a, am, rfl, hS, hl, hb, k⟩ := h
    obtain ⟨cr, u, cv⟩ := T.cv_Bakery_MAX_DAYS
    refine ⟨_, (pss_one (ps_for PassesOwn.never rfl (pi_enumTK K rfl (by rfl) T.b_enumerate (pa_cons (pv 1) pa_nil)) (by exact (pg_tupK K (n := 2) rfl rfl (pgs_cons (pg_name (i := 2) sc_check_amounts.nd rfl (Or.inl rfl)) (pgs_cons (pg_name (i := 3) sc_check_amounts.nd rfl (Or.inl rfl)) pgs_nil)))) (pss_one (ps_if (PW.pt (pw_or (pt_cmpR op_eq (pv 2) (ClX.pe_cval (pe_glob (v := .ref Z.c_Bakery) (by rfl) T.g_Bakery rfl) rfl) (nomark _)) (pw_or (pt_cmpR op_lt (pv 3) pe_int (nomark _)) (pw_or1 (pt_cmpR op_gt (pv 3) (pe_glob (v := .int 1000000000) (by rfl) T.g_MOST_LOAVES ⟨_, rfl⟩) (nomark _)))))) (pss_one ps_no) pss_nil)))), ?_⟩
    refine s_forEnT (ea_cons (ev_var rfl) ea_nil) hS (fun i σ' H' => (∃ x y, σ' = [some (.str s), some (.ref a), x, y]) ∧ Ex H H') (fun H1 e1 => ⟨⟨_, _, rfl⟩, e1⟩) (fun i σ' H' _ p => p.2) ?_ ?_
    · rintro i x σ' H' hx ⟨⟨_, _, rfl⟩, e1⟩ H2 e2
      obtain ⟨rfl, hi⟩ := at_map hx
      have hb' := getD_mem0 (i := i) hb
      refine s_when (b := false) (et_is (et_or (et_test (ev_op (ev_var rfl) (ev_cval ev_c cr cv) (rv_eq rfl))) fun _ => et_or (et_test (by walk_at "ev")) fun _ => et_test (by walk_at "ev")) ?_) (fun hb => nomatch hb) fun _ H3 e3 => ⟨⟨_, _, rfl⟩, (e1.trans e2).trans e3⟩
      have q : ¬ (V.int (i : Nat) = V.int 24) := fun z => by injection z with z; omega
      generalize am.getD i 0 = v at hb'
      simp [q]; omega
    · rintro σ' H' ⟨⟨_, _, rfl⟩, e1⟩
      exact k H' e1
def sp_life1 : Sp := fun vs H Q _ => ∃ life : Int, vs = [.int life] ∧ 1 ≤ life ∧ life ≤ 30 ∧ RetV .non H Q
theorem spv_life {H : Hp} {life : Int} (l0 : 1 ≤ life) (l1 : life ≤ 30) : SpV sp_life1 [.int life] H .non := fun _ e _ q _ => ⟨life, rfl, l0, l1, q⟩
theorem ok_check_life (T : Txt K mg Z) : FnOk P w K mg base CX0 1 Z.f_check_life Z.d_check_life p_check_life sp_life1 := by
  refine T.F_check_life.ok sc_check_life (fun vs H Q E h => ?_) (fun cdv Ar outer s H vs Q E hr h => ?_)
  · obtain ⟨life, rfl, _⟩ := h
    rfl
  · obtain ⟨life, rfl, l0, l1, k⟩ := h
    obtain ⟨cr, u, cv⟩ := T.cv_Bakery_MAX_LIFE
    refine ⟨_, (pss_one (ps_if (PW.pt (pw_or (pt_cmpR op_lt (pv 0) pe_int (nomark _)) (pw_or1 (pt_cmpR op_gt (pv 0) (ClX.pe_cval (pe_glob (v := .ref Z.c_Bakery) (by rfl) T.g_Bakery rfl) rfl) (nomark _))))) (pss_one ps_no) pss_nil)), ?_⟩
    refine s_when (b := false) (et_is (et_or (et_test (by walk_at "ev")) fun _ => et_test (ev_op (ev_var rfl) (ev_cval ev_c cr cv) rv_I0)) (by simp; omega)) (fun hb => nomatch hb) fun _ H5 e5 => k H5 e5
def sp_check (K : PySem.W.Frag) : Sp := fun vs H Q _ => ∃ (a b : Addr) (bs ds : List Int) (life : Int), vs = [.ref a, .ref b, .int life] ∧ SqT K H a (bs.map V.int) ∧ SqT K H b (ds.map V.int) ∧ Good bs ds ∧ 1 ≤ life ∧ life ≤ 30 ∧ RetV .non H Q
theorem ok_check_bakery (T : Txt K mg Z) : FnOk P w K mg base CX0 2 Z.f_check_bakery Z.d_check_bakery p_check_bakery (sp_check K) := by
  refine T.F_check_bakery.ok sc_check_bakery (fun vs H Q E h => ?_) (fun cdv Ar outer s H vs Q E hr h => ?_)
  · obtain ⟨a, b, bs, ds, life, rfl, _⟩ := h
    rfl
  · obtain ⟨a, b, bs, ds, life, rfl, hB, hD, gd, l0, l1, k⟩ := h
    have h0 := gd.n0
    have hn := gd.n1
    have hld := gd.ld
    have e24 : ((bs.map V.int).length : Int) = (bs.length : Int) := by rw [List.length_map]
    have e24' : ((ds.map V.int).length : Int) = (ds.length : Int) := by rw [List.length_map]
    refine ⟨_, (pss_cons (ps_expr (pe_call (ok_check_amounts T) (hr.mono (by decide)) (by rfl) T.g_check_amounts T.F_check_amounts.kp T.b_check_amounts .nil pass0 (pa_cons pe_str (pa_cons (pv 0) pa_nil))))
      (pss_cons (ps_if (pt_cmpR op_eq (pe_callB (r := rLenS K) (call_len_seq) (by rfl) T.b_len boot_len (pa_cons (pv 0) pa_nil)) pe_int (nomark _)) (pss_one ps_no) pss_nil)
      (pss_cons (ps_expr (pe_call (ok_check_amounts T) (hr.mono (by decide)) (by rfl) T.g_check_amounts T.F_check_amounts.kp T.b_check_amounts .nil pass0 (pa_cons pe_str (pa_cons (pv 1) pa_nil))))
      (pss_cons (ps_if (pt_cmpR op_ne (pe_callB (r := rLenS K) (call_len_seq) (by rfl) T.b_len boot_len (pa_cons (pv 1) pa_nil)) (pe_callB (r := rLenS K) (call_len_seq) (by rfl) T.b_len boot_len (pa_cons (pv 0) pa_nil)) (nomark _)) (pss_one ps_no) pss_nil)
      (pss_one (ps_expr (pe_call (ok_check_life T) (hr.mono (by decide)) (by rfl) T.g_check_life T.F_check_life.kp T.b_check_life .nil pass0 (pa_cons (pv 2) pa_nil)))))))), ?_⟩
    refine q_drop (ev_call (ea_cons ev_c (ea_cons (ev_var rfl) ea_nil)) (spv_amounts hB (by omega) gd.b0)) fun H1 e1 => ?_
    refine q_when (b := false) (et_is (et_test (ev_op (Ev.int_eq (ev_lenT (ev_var rfl) (ex_t e1 hB)) e24) ev_c (rv_eq rfl))) ?_) (fun hb => nomatch hb) fun _ H2 e2 => ?_
    · have q : ¬ (V.int (bs.length : Int) = V.int 0) := fun z => by injection z with z; omega
      simp [q]
    refine q_drop (ev_call (ea_cons ev_c (ea_cons (ev_var rfl) ea_nil)) (spv_amounts (ex_t (e1.trans e2) hD) (by omega) gd.d0)) fun H3 e3 => ?_
    have eA := (e1.trans e2).trans e3
    refine q_when (b := false) (et_is (et_test (ev_op (Ev.int_eq (ev_lenT (ev_var rfl) (ex_t eA hD)) e24') (Ev.int_eq (ev_lenT (ev_var rfl) (ex_t eA hB)) e24) (rv_ne rfl))) ?_) (fun hb => nomatch hb) fun _ H4 e4 => ?_
    · have q : V.int (ds.length : Int) = V.int (bs.length : Int) := by rw [hld]
      simp [q]
    exact s_drop (ev_call (ea_cons (ev_var rfl) ea_nil) (spv_life l0 l1)) fun H5 e5 => k H5 ((eA.trans e4).trans e5)
/-! ### the bakery -/
def bakMeths : List Str := ["with_life", "baking_more", "stock", "sold", "missed", "thrown", "totals", "shelf", "MAX_LIFE"]
/-- a bakery -/
structure BakAt (K : PySem.W.Frag) (Z : Ad) (H : Hp) (b : Addr) (bs ds : List Int) (life : Int) (i : Nat) : Prop where
  fb : ∃ tb, FlK K H b Z.c_Bakery "_bakes" (.ref tb) ∧ SqT K H tb (bs.map V.int)
  fd : ∃ td, FlK K H b Z.c_Bakery "_demands" (.ref td) ∧ SqT K H td (ds.map V.int)
  fl : FlK K H b Z.c_Bakery "_life" (.int life)
  fc : ∃ c, FlK K H b Z.c_Bakery "course" (.ref c) ∧ CoAt K Z H c bs ds (keepL bs life)
  fs : FlK K H b Z.c_Bakery "_settled_day" (.int (grw bs ds (keepL bs life) * (bs.length : Int) + (i : Int)))
  fr : ∃ tl, FlK K H b Z.c_Bakery "_long_run" (.ref tl) ∧ SqT K H tl ((longI bs ds (lmOf bs ds (keepL bs life))).map V.int)
  gd : Good bs ds
  l0 : 1 ≤ life
  l1 : life ≤ 30
  hi : SetAt bs ds (keepL bs life) (gainOf bs ds) (firstOf bs ds (keepL bs life)) (fullOf bs ds (keepL bs life)) i
  nf : ∀ m : Str, m ∈ bakMeths → NoF H b Z.c_Bakery m
theorem BakAt.mono {H H' : Hp} {b : Addr} {bs ds : List Int} {life : Int} {i : Nat} (e : Ex H H') (h : BakAt K Z H b bs ds life i) : BakAt K Z H' b bs ds life i :=
  ⟨let ⟨a, x, y⟩ := h.fb; ⟨a, x.mono e, ex_t e y⟩, let ⟨a, x, y⟩ := h.fd; ⟨a, x.mono e, ex_t e y⟩, h.fl.mono e, let ⟨a, x, y⟩ := h.fc; ⟨a, x.mono e, CO.mono e y⟩, h.fs.mono e, let ⟨a, x, y⟩ := h.fr; ⟨a, x.mono e, ex_t e y⟩, h.gd, h.l0, h.l1, h.hi, fun m hm => (h.nf m hm).mono e⟩
theorem BakAt.com {H : Hp} {b : Addr} {bs ds : List Int} {life : Int} {i : Nat} (h : BakAt K Z H b bs ds life i) : CoM bs ds (keepL bs life) := ⟨h.gd, keepL_len, fun _ => keepL_nn h.gd.b0⟩
theorem BakAt.inst {H : Hp} {b : Addr} {bs ds : List Int} {life : Int} {i : Nat} (h : BakAt K Z H b bs ds life i) : ∃ dx fs, H b = some (.ins Z.c_Bakery dx fs) := let ⟨dx, fs, x, _⟩ := h.fl.fl; ⟨dx, fs, x⟩
/-- Course(..) -/
theorem er_course {σ : L2.St} {H : Hp} {M : Addr → Prop} {t : TA} {tb td : Addr} {bs ds : List Int} {life : Int} {E : XK} (ht : EvA t σ H [.ref tb, .ref td, .int life]) (hb : SqT K (wn H M) tb (bs.map V.int)) (hd : SqT K (wn H M) td (ds.map V.int)) (gd : Good bs ds) (l0 : 1 ≤ life) (l1 : life ≤ 30) :
    EvR (tMake Z.c_Course (sp_Cinit K Z) [] E t) σ H M (fun c H' => CoAt K Z H' c bs ds (keepL bs life)) := fun H1 e1 kn Q q => ht H1 e1 _ fun H2 e2 x dx hx hdx hne => by
  have eN : Ex H2 (upd (upd H2 dx (.own x)) x (.ins Z.c_Course dx [])) := fun b o hbo => by
    rw [upd_ne (ne_of_none hbo hx), upd_ne (ne_of_none hbo hdx)]; exact hbo
  have kn2 : ∀ b, M b → H2 b ≠ none := fun b hb z => kn b hb (fresh_back e2 z)
  refine ⟨x, dx, tb, td, bs, ds, life, M, rfl, upd_same, ex_t (wn_mono ((e1.trans e2).trans eN)) hb, ex_t (wn_mono ((e1.trans e2).trans eN)) hd, gd, l0, l1, fun b hb z => kn2 b hb (fresh_back eN z), fun z => kn2 x z hx, fun H3 hC k => ⟨rfl, ?_⟩⟩
  refine q x H3 (fresh_back e2 hx) (e2.trans fun b o hbo => k b o (eN b o hbo) (ne_of_none hbo hx)) hC
def sp_Binit (K : PySem.W.Frag) (Z : Ad) : Sp := fun vs H Q _ => ∃ (x dx tb td : Addr) (bs ds : List Int) (life : Int) (N : Addr → Prop), vs = [.ref x, .ref tb, .ref td, .int life] ∧ H x = some (.ins Z.c_Bakery dx []) ∧
  SqT K (wn H N) tb (bs.map V.int) ∧ SqT K (wn H N) td (ds.map V.int) ∧ Good bs ds ∧ 1 ≤ life ∧ life ≤ 30 ∧
  (∀ b, N b → H b ≠ none) ∧ ¬ N x ∧ ∀ H' i, BakAt K Z (wn H' N) x bs ds life i → (∀ b o, H b = some o → b ≠ x → H' b = some o) → Q .non H'
theorem er_bakery {σ : L2.St} {H : Hp} {M : Addr → Prop} {t : TA} {tb td : Addr} {bs ds : List Int} {life : Int} {E : XK} (ht : EvA t σ H [.ref tb, .ref td, .int life]) (hb : SqT K (wn H M) tb (bs.map V.int)) (hd : SqT K (wn H M) td (ds.map V.int)) (gd : Good bs ds) (l0 : 1 ≤ life) (l1 : life ≤ 30) :
    EvR (tMake Z.c_Bakery (sp_Binit K Z) [] E t) σ H M (fun c H' => ∃ i, BakAt K Z H' c bs ds life i) := fun H1 e1 kn Q q => ht H1 e1 _ fun H2 e2 x dx hx hdx hne => by
  have eN : Ex H2 (upd (upd H2 dx (.own x)) x (.ins Z.c_Bakery dx [])) := fun b o hbo => by
    rw [upd_ne (ne_of_none hbo hx), upd_ne (ne_of_none hbo hdx)]; exact hbo
  have kn2 : ∀ b, M b → H2 b ≠ none := fun b hb z => kn b hb (fresh_back e2 z)
  refine ⟨x, dx, tb, td, bs, ds, life, M, rfl, upd_same, ex_t (wn_mono ((e1.trans e2).trans eN)) hb, ex_t (wn_mono ((e1.trans e2).trans eN)) hd, gd, l0, l1, fun b hb z => kn2 b hb (fresh_back eN z), fun z => kn2 x z hx, fun H3 i hC k => ⟨rfl, ?_⟩⟩
  refine q x H3 (fresh_back e2 hx) (e2.trans fun b o hbo => k b o (eN b o hbo) (ne_of_none hbo hx)) ⟨i, hC⟩
theorem ok_Bakery___init__ (T : Txt K mg Z) : FnOk P w K mg base CX0 6 Z.f_Bakery___init__ Z.d_Bakery___init__ p_Bakery___init__ (sp_Binit K Z) := by
  refine T.F_Bakery___init__.ok sc_Bakery___init__ (fun vs H Q E h => ?_) (fun cdv Ar outer s H vs Q E hr h => ?_)
  · obtain ⟨x, dx, tb, td, bs, ds, life, N, rfl, _⟩ := h
    rfl
  · obtain ⟨x, dx, tb, td, bs, ds, life, N, rfl, hx, hb, hd, gd, l0, l1, hN, nNx, k⟩ := h
    have hM : nx x N x := .inl rfl
    have cl := T.cl_Bakery
    have cm : CoM bs ds (keepL bs life) := ⟨gd, keepL_len, fun _ => keepL_nn gd.b0⟩
    obtain ⟨i, hi⟩ := set_ex cm
    refine ⟨_, (pss_cons (ps_expr (pe_call (ok_check_bakery T) (hr.mono (by decide)) (by rfl) T.g_check_bakery T.F_check_bakery.kp T.b_check_bakery .nil pass0 (pa_cons (pv 1) (pa_cons (pv 2) (pa_cons (pv 3) pa_nil)))))
      (pss_cons (ps_fld (pv 0) (pe_callTy (r := rTupS K) (call_tuple_of) (by rfl) T.b_tuple boot_tuple (pa_cons (pv 1) pa_nil)) rfl)
      (pss_cons (ps_fld (pv 0) (pe_callTy (r := rTupS K) (call_tuple_of) (by rfl) T.b_tuple boot_tuple (pa_cons (pv 2) pa_nil)) rfl)
      (pss_cons (ps_fld (pv 0) (pv 3) rfl)
      (pss_cons (ps_fld (pv 0) (pe_make T.mk_Course (ok_Course___init__ T) (hr.mono (by decide)) (by rfl) T.g_Course T.b_Course___init__ .nil pass0 (pa_cons (pe_fldK K rfl (pv 0) rfl) (pa_cons (pe_fldK K rfl (pv 0) rfl) (pa_cons (pv 3) pa_nil)))) rfl)
      (pss_cons (ps_fld (pv 0) (pe_meth0 (pe_fldK K rfl (pv 0) rfl) T.cl_Course T.m_Course_find_settled (ok_Course_find_settled T) (hr.mono (by decide)) T.b_Course_find_settled .nil pass0) rfl)
      (pss_one (ps_fld (pv 0) (pe_meth0 (pe_fldK K rfl (pv 0) rfl) T.cl_Course T.m_Course_sum_settled_round (ok_Course_sum_settled_round T) (hr.mono (by decide)) T.b_Course_sum_settled_round .nil pass0) rfl)))))))), ?_⟩
    refine q_drop (ev_call (ea_cons (ev_var rfl) (ea_cons (ev_var rfl) (ea_cons (ev_var rfl) ea_nil))) (fun _ e _ q _ => ⟨tb, td, bs, ds, life, rfl, ex_t (wn_ex.trans e) hb, ex_t (wn_ex.trans e) hd, gd, l0, l1, q⟩)) fun H0 e0 => ?_
    have hbw : SqT K (wn H (nx x N)) tb (bs.map V.int) := wn_tx hx hb
    have hdw : SqT K (wn H (nx x N)) td (ds.map V.int) := wn_tx hx hd
    have w0 : Ex (wn H (nx x N)) (wn H0 (nx x N)) := wn_mono e0
    have kn0 : ∀ b, nx x N b → H0 b ≠ none := fun b z q => z.elim (fun e => by rw [e, e0 _ _ hx] at q; cases q) fun e => hN b e (fresh_back e0 q)
    refine q_self hM kn0 (ev_tupT (ev_var rfl) (ex_t (wn_ex.trans e0) hb)) (fun _ _ => ev_var rfl) (e0 _ _ hx) cl T.na_Bakery__bakes (by decide) fun S1 x1 g1 => ?_
    refine q_self hM g1.kn (ev_tupT (ev_var rfl) (ex_t ((w0.trans g1.ex).trans wn_ex) hdw)) (fun _ _ => ev_var rfl) x1 cl T.na_Bakery__demands (by show 1 < 1000; decide) fun S2 x2 g2 => ?_
    refine q_self hM g2.kn (ev_var rfl) (fun _ _ => ev_var rfl) x2 cl T.na_Bakery__life (by show 2 < 1000; decide) fun S3 x3 g3 => ?_
    have w03 := ((w0.trans g1.ex).trans g2.ex).trans g3.ex
    have fb3 := flk_of x3 cl T.na_Bakery__bakes (show _ = some (V.ref tb) from rfl)
    have fd3 := flk_of x3 cl T.na_Bakery__demands (show _ = some (V.ref td) from rfl)
    -- course
    refine q_selfR hM g3.kn (er_course (ea_cons (by walk_at "ev") (ea_cons (by walk_at "ev") (ea_cons (ev_var rfl) ea_nil))) (ex_t w03 hbw) (ex_t w03 hdw) gd l0 l1) (fun _ _ => ev_var rfl) x3 cl T.na_Bakery_course (by show 3 < 1000; decide)
      (fun p H1 H2 e hP => CO.mono e hP) fun c S4 c4 x4 g4 => ?_
    -- _settled_day
    have fc4 := flk_of x4 cl T.na_Bakery_course (show _ = some (V.ref c) from rfl)
    have fsr : ∀ {S : Hp}, CoAt K Z S c bs ds (keepL bs life) → SpV (sp_settled K Z) [.ref c] S (.int (grw bs ds (keepL bs life) * (bs.length : Int) + (i : Int))) := fun hC _ e _ q _ => by
      obtain ⟨tb', td', tk', s⟩ := hC.sr
      exact ⟨c, bs, ds, keepL bs life, tb', td', tk', _, _, _, i, rfl, ⟨s.mono e, (hC.nf _ (by decide)).mono e⟩, cm.gainb.1, hi, q⟩
    refine q_self hM g4.kn (ev_meth (by walk_at "ev") ((CO.mono wn_ex c4).nf _ (by decide)) ea_nil (fsr (CO.mono wn_ex c4))) (fun _ _ => ev_var rfl) x4 cl T.na_Bakery__settled_day (by show 4 < 1000; decide) fun S5 x5 g5 => ?_
    have fc5 := flk_of x5 cl T.na_Bakery_course (show _ = some (V.ref c) from rfl)
    have c5 : CoAt K Z (wn S5 (nx x N)) c bs ds (keepL bs life) := CO.mono g5.ex c4
    refine q_selfU hM g5.kn (xs := (longI bs ds (lmOf bs ds (keepL bs life))).map V.int) (eu_meth (by walk_at "ev") ((CO.mono wn_ex c5).nf _ (by decide)) ea_nil (fun _ e _ q _ => ⟨c, bs, ds, keepL bs life, _, _, _, _, _, rfl, CO.mono e (CO.mono wn_ex c5), q⟩)) (fun _ _ => ev_var rfl) x5 cl T.na_Bakery__long_run (by show 5 < 1000; decide) fun tl S6 hl6 x6 g6 => ?_
    have w06 := ((w03.trans g4.ex).trans g5.ex).trans g6.ex
    have sb : ∀ {S : Hp}, Ex (wn S (nx x N)) (wn S N) := wn_sub fun b z => .inr z
    have y6 : wn S6 N x = _ := (wn_ni nNx).trans x6
    refine k S6 i ⟨⟨tb, flk_of y6 cl T.na_Bakery__bakes rfl, ex_t (w06.trans sb) hbw⟩, ⟨td, flk_of y6 cl T.na_Bakery__demands rfl, ex_t (w06.trans sb) hdw⟩, flk_of y6 cl T.na_Bakery__life rfl, ⟨c, flk_of y6 cl T.na_Bakery_course rfl, CO.mono (g6.ex.trans sb) c5⟩,
      flk_of y6 cl T.na_Bakery__settled_day rfl, ⟨tl, flk_of y6 cl T.na_Bakery__long_run rfl, ex_t sb hl6⟩, gd, l0, l1, hi, ?_⟩ fun b o hbo hne => ?_
    · intro m hm
      refine ⟨_, _, y6, ?_⟩
      simp only [bakMeths, List.mem_cons, List.not_mem_nil, or_false] at hm
      rcases hm with rfl | rfl | rfl | rfl | rfl | rfl | rfl | rfl | rfl <;> rfl
    · exact g6.al b o (g5.al b o (g4.al b o (g3.al b o (g2.al b o (g1.al b o (e0 b o hbo) hne) hne) hne) hne) hne) hne
/-! ### a bakery's methods -/
theorem ev_prop {σ : L2.St} {H : Hp} {ta : TE} {C a : Addr} {sp : Sp} {E : XK} {z : V} (h : Ev ta σ H (.ref a)) (hi : ∃ dx fs, H a = some (.ins C dx fs)) (hs : SpV sp [.ref a] H z) : Ev (tProp C sp [] E ta) σ H z := fun H1 e Q q =>
  h H1 e _ fun H2 e2 => let ⟨dx, fs, h1⟩ := hi; ⟨a, dx, fs, rfl, e2 _ _ (e _ _ h1), hs H2 (e.trans e2) Q (fun H3 e3 => q H3 (e2.trans e3)) E⟩
def sp_Bset (K : PySem.W.Frag) (Z : Ad) : Sp := fun vs H Q _ => ∃ (b : Addr) (bs ds : List Int) (life : Int) (i : Nat), vs = [.ref b] ∧ BakAt K Z H b bs ds life i ∧ RetV (.int (grw bs ds (keepL bs life) * (bs.length : Int) + (i : Int))) H Q
theorem ok_Bakery_settled_day (T : Txt K mg Z) : FnOk P w K mg base CX0 1 Z.f_Bakery_settled_day Z.d_Bakery_settled_day p_Bakery_settled_day (sp_Bset K Z) := by
  refine T.F_Bakery_settled_day.ok sc_Bakery_settled_day (fun vs H Q E h => ?_) (fun cdv Ar outer s H vs Q E hr h => ?_)
  · obtain ⟨b, bs, ds, life, i, rfl, _⟩ := h
    rfl
  · obtain ⟨b, bs, ds, life, i, rfl, hB, k⟩ := h
    have fs := hB.fs
    refine ⟨_, (pss_one (ps_ret (pe_fldK K rfl (pv 0) rfl))), ?_⟩
    exact s_ret (by walk_at "ev") fun H1 e1 => k H1 e1
def sp_Blong (K : PySem.W.Frag) (Z : Ad) : Sp := fun vs H Q _ => ∃ (b : Addr) (bs ds : List Int) (life : Int) (i : Nat), vs = [.ref b] ∧ BakAt K Z H b bs ds life i ∧ ∀ p H', Ex H H' → SqT K H' p ((longI bs ds (lmOf bs ds (keepL bs life))).map V.int) → Q (.ref p) H'
theorem ok_Bakery_long_run (T : Txt K mg Z) : FnOk P w K mg base CX0 1 Z.f_Bakery_long_run Z.d_Bakery_long_run p_Bakery_long_run (sp_Blong K Z) := by
  refine T.F_Bakery_long_run.ok sc_Bakery_long_run (fun vs H Q E h => ?_) (fun cdv Ar outer s H vs Q E hr h => ?_)
  · obtain ⟨b, bs, ds, life, i, rfl, _⟩ := h
    rfl
  · obtain ⟨b, bs, ds, life, i, rfl, hB, k⟩ := h
    obtain ⟨tl, fl, hl⟩ := hB.fr
    refine ⟨_, (pss_one (ps_ret (pe_fldK K rfl (pv 0) rfl))), ?_⟩
    exact s_ret (by walk_at "ev") fun H1 e1 => k tl H1 e1 (ex_t e1 hl)
def sp_Bstock (K : PySem.W.Frag) (Z : Ad) : Sp := fun vs H Q _ => ∃ (b : Addr) (bs ds : List Int) (life : Int) (i : Nat) (t : Nat), vs = [.ref b, .int (t : Int)] ∧ (t : Int) ≤ 1000000000000000000 ∧ BakAt K Z H b bs ds life i ∧ RetV (.int (dayS bs ds (keepL bs life) t)) H Q
def sp_Bday (K : PySem.W.Frag) (Z : Ad) (j : Nat) : Sp := fun vs H Q _ => ∃ (b : Addr) (bs ds : List Int) (life : Int) (i : Nat) (t : Nat), vs = [.ref b, .int (t : Int)] ∧ (t : Int) ≤ 1000000000000000000 ∧ BakAt K Z H b bs ds life i ∧ RetV (.int ([solS bs ds (keepL bs life) t, misS bs ds (keepL bs life) t, thrS bs ds (keepL bs life) t].getD j 0)) H Q
def totS (bs ds ks : List Int) (t : Nat) : List Int := [psum (solS bs ds ks) t, psum (misS bs ds ks) t, psum (thrS bs ds ks) t]
def sp_Btot (K : PySem.W.Frag) (Z : Ad) : Sp := fun vs H Q _ => ∃ (b : Addr) (bs ds : List Int) (life : Int) (i : Nat) (t : Nat), vs = [.ref b, .int (t : Int)] ∧ (t : Int) ≤ 1000000000000000000 ∧ BakAt K Z H b bs ds life i ∧ RetU ((totS bs ds (keepL bs life) t).map V.int) H Q
theorem ok_Bakery_totals (T : Txt K mg Z) : FnOk P w K mg base CX0 5 Z.f_Bakery_totals Z.d_Bakery_totals p_Bakery_totals (sp_Btot K Z) := by
  refine T.F_Bakery_totals.ok sc_Bakery_totals (fun vs H Q E h => ?_) (fun cdv Ar outer s H vs Q E hr h => ?_)
  · obtain ⟨b, bs, ds, life, i, t, rfl, _⟩ := h
    rfl
  · obtain ⟨b, bs, ds, life, i, t, rfl, ht, hB, k⟩ := h
    refine ⟨_, (pss_cons (ps_expr (pe_call (ok_check_number T) (hr.mono (by decide)) (by rfl) T.g_check_number T.F_check_number.kp T.b_check_number .nil pass0 (pa_cons (pv 1) (pa_cons pe_int (pa_cons (pe_glob (v := .int 1000000000000000000) (by rfl) T.g_LAST_DAY ⟨_, rfl⟩) pa_nil)))))
      (pss_one (ps_ret (pe_meth (pe_fldK K rfl (pv 0) rfl) T.cl_Course T.m_Course_sales_before (ok_Course_sales_before T) (hr.mono (by decide)) T.b_Course_sales_before .nil pass0 (pa_cons (pv 1) pa_nil))))), ?_⟩
    refine q_drop (ev_call (ea_cons (ev_var rfl) (ea_cons ev_c (ea_cons ev_c ea_nil))) (spv_num (by omega) ht)) fun H1 e1 => ?_
    obtain ⟨c, fc, hC⟩ := (hB.mono e1).fc
    refine s_retU (xs := (totS bs ds (keepL bs life) t).map V.int) (eu_meth (by walk_at "ev") (hC.nf _ (by decide)) (ea_cons (ev_var rfl) ea_nil) (fun _ e _ q _ => ?_)) fun p H2 hp e2 h2 => k p H2 (fresh_back e1 hp) (e1.trans e2) h2
    refine ⟨c, bs, ds, keepL bs life, _, _, _, _, _, (t : Int), rfl, by omega, CO.mono e hC, ?_⟩
    rw [tot_is hB.com]
    exact q
end Sw
namespace Sw
section
variable {bs ds ks : List Int}
theorem tot_long (h : CoM bs ds ks) {a : Nat} (hD : ∀ t, a ≤ t → dayS bs ds ks t = dayS bs ds ks (t + bs.length)) (T j : Nat) :
    (totS bs ds ks (a + T * bs.length)).getD j 0 = (totS bs ds ks a).getD j 0 + (T : Int) * (longI bs ds (lmOf bs ds ks)).getD j 0 := by
  have hm : ∀ t, a ≤ t → misS bs ds ks (t + bs.length) = misS bs ds ks t := fun t ht => by unfold misS dm bk; rw [Nat.add_mod_right, ← hD t ht]
  have hs : ∀ t, a ≤ t → solS bs ds ks (t + bs.length) = solS bs ds ks t := fun t ht => by unfold solS; rw [hm t ht]; unfold dm; rw [Nat.add_mod_right]
  have ht : ∀ t, a ≤ t → thrS bs ds ks (t + bs.length) = thrS bs ds ks t := fun t ht => by
    unfold thrS
    rw [hs t ht, ← hD t ht, show t + bs.length + 1 = t + 1 + bs.length by omega, ← hD (t + 1) (by omega)]
    unfold bk; rw [Nat.add_mod_right]
  rw [long_is h hD]
  unfold totS
  rw [rounds_psum hs T, rounds_psum hm T, rounds_psum ht T]
  match j with
  | 0 => rfl
  | 1 => rfl
  | 2 => rfl
  | j + 3 => simp [List.getD]
theorem stkAt_top {bs ds ks : List Int} {s : Int} {i : Nat} : stkAt bs ds ks s (i + 1) ≤ ks.getD i 0 := by
  show stp _ _ _ _ ≤ _
  unfold stp; omega
theorem keepAt_le {life : Int} {i : Nat} (h : ∀ x ∈ bs, 0 ≤ x ∧ x ≤ 1000000000) (l0 : 1 ≤ life) (l1 : life ≤ 30) : keepAt bs life i ≤ 29000000000 := by
  unfold keepAt
  have z := sum_bound (xs := (List.range (life - 1).toNat).map fun (age : Nat) => bs.getD ((((i : Int) - (age : Int)) % (bs.length : Int)).toNat) 0) (M := 1000000000) (by omega) (fun x hx => by
    obtain ⟨j, _, rfl⟩ := List.mem_map.mp hx
    exact getD_mem0 h)
  rw [List.length_map, List.length_range] at z
  have : ((life - 1).toNat : Int) * 1000000000 ≤ 29 * 1000000000 := Int.mul_le_mul_of_nonneg_right (by omega) (by omega)
  omega
theorem full_small {life : Int} (h : CoM bs ds (keepL bs life)) (l0 : 1 ≤ life) (l1 : life ≤ 30) : fullOf bs ds (keepL bs life) ≤ 29000000000 := by
  unfold fullOf
  obtain ⟨m, hm⟩ : ∃ m, bs.length = m + 1 := ⟨bs.length - 1, by have := h.gd.n0; omega⟩
  rw [hm]
  have z := stkAt_top (bs := bs) (ds := ds) (ks := keepL bs life) (s := (keepL bs life).getD 0 0 + ds.getD 0 0) (i := m)
  have e : (keepL bs life).getD m 0 = keepAt bs life m := by
    unfold keepL
    simp [List.getD, List.getElem?_range (show m < bs.length by omega)]
  have q := keepAt_le (i := m) h.gd.b0 l0 l1
  omega
theorem settled_small {life : Int} (h : CoM bs ds (keepL bs life)) (l0 : 1 ≤ life) (l1 : life ≤ 30) {i : Nat} (hi : SetAt bs ds (keepL bs life) (gainOf bs ds) (firstOf bs ds (keepL bs life)) (fullOf bs ds (keepL bs life)) i) :
    0 ≤ grw bs ds (keepL bs life) * (bs.length : Int) + (i : Int) ∧ grw bs ds (keepL bs life) * (bs.length : Int) + (i : Int) ≤ 1000000000000 := by
  have g0 := grw_nn h
  have f1 := full_small h l0 l1
  have f0 := h.first
  have fl := first_le h
  have n1 := h.gd.n1
  have hg := h.gainb.1
  have gs : grw bs ds (keepL bs life) ≤ 29000000000 := by
    by_cases z : gainOf bs ds = 0
    · have : grw bs ds (keepL bs life) = 0 := by unfold grw growing; rw [if_pos z]
      omega
    · have e : grw bs ds (keepL bs life) = -((firstOf bs ds (keepL bs life) - fullOf bs ds (keepL bs life)) / gainOf bs ds) := by unfold grw growing; rw [if_neg z]
      have q1 := Int.lt_ediv_add_one_mul_self (firstOf bs ds (keepL bs life) - fullOf bs ds (keepL bs life)) (show 0 < gainOf bs ds by omega)
      have q2 : (firstOf bs ds (keepL bs life) - fullOf bs ds (keepL bs life)) / gainOf bs ds ≥ firstOf bs ds (keepL bs life) - fullOf bs ds (keepL bs life) := by
        by_cases w : (firstOf bs ds (keepL bs life) - fullOf bs ds (keepL bs life)) / gainOf bs ds < firstOf bs ds (keepL bs life) - fullOf bs ds (keepL bs life)
        · exfalso
          have w1 : (firstOf bs ds (keepL bs life) - fullOf bs ds (keepL bs life)) / gainOf bs ds + 1 ≤ firstOf bs ds (keepL bs life) - fullOf bs ds (keepL bs life) := by omega
          have w2 : ((firstOf bs ds (keepL bs life) - fullOf bs ds (keepL bs life)) / gainOf bs ds + 1) * gainOf bs ds ≤ (firstOf bs ds (keepL bs life) - fullOf bs ds (keepL bs life)) * gainOf bs ds := Int.mul_le_mul_of_nonneg_right w1 hg
          have w3 : (firstOf bs ds (keepL bs life) - fullOf bs ds (keepL bs life)) * gainOf bs ds ≤ (firstOf bs ds (keepL bs life) - fullOf bs ds (keepL bs life)) * 1 := Int.mul_le_mul_of_nonpos_left (by omega) (by omega)
          omega
        · omega
      omega
  have n0 : 0 ≤ grw bs ds (keepL bs life) * (bs.length : Int) := Int.mul_nonneg g0 (by omega)
  have n2 : grw bs ds (keepL bs life) * (bs.length : Int) ≤ 29000000000 * 24 := by
    have w1 : grw bs ds (keepL bs life) * (bs.length : Int) ≤ grw bs ds (keepL bs life) * 24 := Int.mul_le_mul_of_nonneg_left (by omega) g0
    omega
  have := hi.1
  omega
end
end Sw
namespace Sw
/-! ### the newest loaves; multiplied amounts; known courses -/
section
variable {bs ds ks : List Int} {m life : Int}
def bkI (bs : List Int) (d : Int) : Int := bs.getD ((d % (bs.length : Int)).toNat) 0
def sumNew (bs : List Int) : Nat → Int → Int
  | 0, _ => 0
  | f + 1, d => bkI bs (d - 1) + sumNew bs f (d - 1)
def newest (bs : List Int) : Nat → Int → Int → List (Int × Int)
  | 0, _, _ => []
  | f + 1, d, left => if 0 < left then (if 0 < min left (bkI bs (d - 1)) then [(d - 1, min left (bkI bs (d - 1)))] else []) ++ newest bs f (d - 1) (left - min left (bkI bs (d - 1))) else []
theorem newest_len : ∀ (f : Nat) (d left : Int), (newest bs f d left).length ≤ f
  | 0, _, _ => Nat.le_refl _
  | f + 1, d, left => by
    unfold newest
    have z := newest_len f (d - 1) (left - min left (bkI bs (d - 1)))
    split
    · rw [List.length_append]
      split
      · simp only [List.length_cons, List.length_nil]; omega
      · simp only [List.length_nil]; omega
    · exact Nat.zero_le _
theorem newest_zero {f : Nat} {d : Int} {left : Int} (h : left ≤ 0) : newest bs f d left = [] := by
  cases f with
  | zero => rfl
  | succ f => unfold newest; rw [if_neg (by omega)]
theorem bkI_b (h : ∀ x ∈ bs, 0 ≤ x ∧ x ≤ 1000000000) (d : Int) : 0 ≤ bkI bs d ∧ bkI bs d ≤ 1000000000 := getD_mem0 h
theorem sumNew_nn (h : ∀ x ∈ bs, 0 ≤ x ∧ x ≤ 1000000000) : ∀ (f : Nat) (d : Int), 0 ≤ sumNew bs f d
  | 0, _ => Int.le_refl _
  | f + 1, d => by
    have := (bkI_b h (d - 1)).1
    have := sumNew_nn h f (d - 1)
    show 0 ≤ bkI bs (d - 1) + sumNew bs f (d - 1)
    omega
theorem sumNew_last : ∀ (f : Nat) (d : Int), sumNew bs (f + 1) d = sumNew bs f d + bkI bs (d - 1 - (f : Int))
  | 0, d => by show bkI bs (d - 1) + 0 = 0 + _; simp
  | f + 1, d => by
    show bkI bs (d - 1) + sumNew bs (f + 1) (d - 1) = bkI bs (d - 1) + sumNew bs f (d - 1) + _
    rw [sumNew_last f (d - 1)]
    have e : d - 1 - 1 - (f : Int) = d - 1 - ((f + 1 : Nat) : Int) := by omega
    rw [e]; omega
theorem keepAt_new {t : Nat} : keepAt bs life (t % bs.length) = sumNew bs (life - 1).toNat ((t : Int) + 1) := by
  unfold keepAt
  generalize (life - 1).toNat = f
  induction f with
  | zero => rfl
  | succ f ih =>
    rw [List.range_succ, List.map_append, List.sum_append, ih, sumNew_last]
    have e : (((t % bs.length : Nat) : Int) - (f : Int)) % (bs.length : Int) = ((t : Int) + 1 - 1 - (f : Int)) % (bs.length : Int) := by
      rw [Int.natCast_emod, Int.sub_emod, Int.emod_emod, ← Int.sub_emod]
      congr 1
      omega
    simp only [List.map_cons, List.map_nil, List.sum_cons, List.sum_nil]
    rw [e]
    unfold bkI
    omega
theorem keepL_at {i : Nat} (hi : i < bs.length) : (keepL bs life).getD i 0 = keepAt bs life i := by
  unfold keepL
  simp [List.getD, List.getElem?_range hi]
theorem stock_new (h : Good bs ds) (t : Nat) : dayS bs ds (keepL bs life) t ≤ sumNew bs (life - 1).toNat (t : Int) := by
  cases t with
  | zero => exact sumNew_nn h.b0 _ _
  | succ t =>
    have e : (keepL bs life).getD (t % bs.length) 0 = sumNew bs (life - 1).toNat ((t : Int) + 1) := by
      rw [keepL_at (Nat.mod_lt t h.n0), keepAt_new]
    show stp _ _ _ _ ≤ sumNew bs (life - 1).toNat ((t : Int) + 1)
    rw [← e]
    unfold stp; omega
/-! multiplied -/
theorem mul_mn (hm : 0 ≤ m) (a b : Int) : m * min a b = min (m * a) (m * b) := by
  rcases Int.le_total a b with h | h
  · rw [Int.min_eq_left h, Int.min_eq_left (Int.mul_le_mul_of_nonneg_left h hm)]
  · rw [Int.min_eq_right h, Int.min_eq_right (Int.mul_le_mul_of_nonneg_left h hm)]
theorem mul_mx (hm : 0 ≤ m) (a : Int) : m * max 0 a = max 0 (m * a) := by
  rcases Int.le_total 0 a with h | h
  · have := Int.mul_nonneg hm h
    rw [Int.max_eq_right h, Int.max_eq_right this]
  · have := Int.mul_le_mul_of_nonneg_left h hm
    rw [Int.mul_zero] at this
    rw [Int.max_eq_left h, Int.max_eq_left this, Int.mul_zero]
theorem stp_scale (hm : 0 ≤ m) (s b d k : Int) : stp (m * s) (m * b) (m * d) (m * k) = m * stp s b d k := by
  unfold stp
  rw [mul_mn hm, mul_mx hm, Int.mul_sub, Int.mul_add]
theorem getD_scale (xs : List Int) (i : Nat) : (xs.map (m * ·)).getD i 0 = m * xs.getD i 0 := by
  simp only [List.getD, List.getElem?_map]
  cases xs[i]? with
  | none => simp
  | some v => rfl
theorem keepAt_scale (i : Nat) : keepAt (bs.map (m * ·)) life i = m * keepAt bs life i := by
  unfold keepAt
  rw [List.length_map]
  generalize (life - 1).toNat = n
  induction n with
  | zero => simp
  | succ n ih =>
    rw [List.range_succ, List.map_append, List.sum_append, List.map_append, List.sum_append, ih, Int.mul_add]
    simp only [List.map_cons, List.map_nil, List.sum_cons, List.sum_nil, Int.add_zero]
    rw [getD_scale]
theorem keepL_scale {i : Nat} (hi : i < bs.length) : (keepL (bs.map (m * ·)) life).getD i 0 = m * (keepL bs life).getD i 0 := by
  rw [keepL_at hi, keepL_at (by rw [List.length_map]; exact hi), keepAt_scale]
theorem dayS_scale (hm : 0 ≤ m) (h0 : 0 < bs.length) (t : Nat) : dayS (bs.map (m * ·)) (ds.map (m * ·)) (keepL (bs.map (m * ·)) life) t = m * dayS bs ds (keepL bs life) t := by
  induction t with
  | zero => show (0 : Int) = m * 0; simp
  | succ t ih =>
    show stp _ _ _ _ = m * stp _ _ _ _
    rw [ih, List.length_map, getD_scale, getD_scale, keepL_scale (Nat.mod_lt t h0), stp_scale hm]
theorem bk_scale (t : Nat) : bk (bs.map (m * ·)) t = m * bk bs t := by unfold bk; rw [List.length_map, getD_scale]
theorem dm_scale (t : Nat) : dm (bs.map (m * ·)) (ds.map (m * ·)) t = m * dm bs ds t := by unfold dm; rw [List.length_map, getD_scale]
theorem mis_scale (hm : 0 ≤ m) (h0 : 0 < bs.length) (t : Nat) : misS (bs.map (m * ·)) (ds.map (m * ·)) (keepL (bs.map (m * ·)) life) t = m * misS bs ds (keepL bs life) t := by
  unfold misS
  rw [dayS_scale hm h0, bk_scale, dm_scale, mul_mx hm, Int.mul_sub, Int.mul_sub]
theorem sol_scale (hm : 0 ≤ m) (h0 : 0 < bs.length) (t : Nat) : solS (bs.map (m * ·)) (ds.map (m * ·)) (keepL (bs.map (m * ·)) life) t = m * solS bs ds (keepL bs life) t := by
  unfold solS
  rw [mis_scale hm h0, dm_scale, Int.mul_sub]
theorem thr_scale (hm : 0 ≤ m) (h0 : 0 < bs.length) (t : Nat) : thrS (bs.map (m * ·)) (ds.map (m * ·)) (keepL (bs.map (m * ·)) life) t = m * thrS bs ds (keepL bs life) t := by
  unfold thrS
  rw [sol_scale hm h0, bk_scale, dayS_scale hm h0, dayS_scale hm h0, Int.mul_sub, Int.mul_sub, Int.mul_sub]
theorem psum_scale {f g : Nat → Int} (h : ∀ j, f j = m * g j) : ∀ n, psum f n = m * psum g n
  | 0 => by show (0 : Int) = m * 0; simp
  | n + 1 => by show psum f n + f n = m * (psum g n + g n); rw [psum_scale h n, h, Int.mul_add]
theorem newest_scale (hm : 0 < m) : ∀ (f : Nat) (d left : Int), newest (bs.map (m * ·)) f d (m * left) = (newest bs f d left).map fun p => (p.1, m * p.2)
  | 0, _, _ => rfl
  | f + 1, d, left => by
    have eb : bkI (bs.map (m * ·)) (d - 1) = m * bkI bs (d - 1) := by unfold bkI; rw [List.length_map, getD_scale]
    have pos : ∀ x : Int, 0 < m * x ↔ 0 < x := fun x => ⟨fun z => by
      rcases Int.lt_or_le 0 x with q | q
      · exact q
      · have := Int.mul_le_mul_of_nonneg_left q (Int.le_of_lt hm)
        rw [Int.mul_zero] at this
        omega, fun z => Int.mul_pos hm z⟩
    unfold newest
    rw [eb, ← mul_mn (Int.le_of_lt hm), ← Int.mul_sub, newest_scale hm f]
    by_cases h1 : 0 < left
    · rw [if_pos h1, if_pos ((pos _).mpr h1), List.map_append]
      by_cases h2 : 0 < min left (bkI bs (d - 1))
      · rw [if_pos h2, if_pos ((pos _).mpr h2)]; rfl
      · rw [if_neg h2, if_neg (fun z => h2 ((pos _).mp z))]; rfl
    · rw [if_neg h1, if_neg (fun z => h1 ((pos _).mp z))]; rfl
/-! life 1 -/
theorem day_life1 (t : Nat) : dayS bs ds (keepL bs 1) t = 0 := by
  have k0 : ∀ i, (keepL bs 1).getD i 0 = 0 := fun i => by
    by_cases hi : i < bs.length
    · rw [keepL_at hi]; rfl
    · have e : (List.range bs.length)[i]? = none := List.getElem?_eq_none (by rw [List.length_range]; omega)
      unfold keepL
      simp [List.getD, List.getElem?_map, e]
  cases t with
  | zero => rfl
  | succ t =>
    show stp _ _ _ _ = 0
    rw [k0]
    unfold stp; omega
/-! the same each day -/
theorem keep_one {b : Int} (l1 : 1 ≤ life) : (keepL [b] life).getD 0 0 = (life - 1) * b := by
  rw [keepL_at (show 0 < 1 by decide)]
  unfold keepAt
  have e : (life - 1) * b = ((life - 1).toNat : Int) * b := by rw [Int.toNat_of_nonneg (by omega)]
  rw [e]
  generalize (life - 1).toNat = n
  induction n with
  | zero => simp
  | succ n ih =>
    rw [List.range_succ, List.map_append, List.sum_append, ih]
    have z : ((([b] : List Int).length : Nat) : Int) = 1 := rfl
    simp only [List.map_cons, List.map_nil, List.sum_cons, List.sum_nil, z, Int.emod_one]
    rw [Int.natCast_add, Int.add_mul]
    simp
theorem day_one {b d : Int} (b0 : 0 ≤ b) (l1 : 1 ≤ life) (t : Nat) : dayS [b] [d] (keepL [b] life) t = max 0 (min ((t : Int) * (b - d)) ((life - 1) * b)) := by
  have hk : 0 ≤ (life - 1) * b := Int.mul_nonneg (by omega) b0
  induction t with
  | zero => show (0 : Int) = _; simp; omega
  | succ t ih =>
    show stp _ _ _ _ = _
    have e : t % ([b] : List Int).length = 0 := Nat.mod_one t
    rw [ih, e, keep_one l1]
    have e2 : ((t + 1 : Nat) : Int) * (b - d) = (t : Int) * (b - d) + (b - d) := by rw [Int.natCast_add, Int.add_mul]; simp
    rw [e2]
    show stp _ b d _ = _
    generalize (life - 1) * b = k at hk ⊢
    rcases Int.le_total d b with h | h
    · have : 0 ≤ (t : Int) * (b - d) := Int.mul_nonneg (by omega) (by omega)
      generalize (t : Int) * (b - d) = x at this ⊢
      unfold stp; omega
    · have : (t : Int) * (b - d) ≤ 0 := by
        have := Int.mul_nonneg (show (0 : Int) ≤ (t : Int) by omega) (show 0 ≤ d - b by omega)
        have e3 : (t : Int) * (d - b) = - ((t : Int) * (b - d)) := by rw [← Int.mul_neg]; congr 1; omega
        omega
      generalize (t : Int) * (b - d) = x at this ⊢
      unfold stp; omega
theorem mis_one {b d : Int} (b0 : 0 ≤ b) (l1 : 1 ≤ life) (t : Nat) : misS [b] [d] (keepL [b] life) t = max 0 (d - b) := by
  have hk : 0 ≤ (life - 1) * b := Int.mul_nonneg (by omega) b0
  unfold misS
  have e1 : dm [b] [d] t = d := by unfold dm; have e : t % ([b] : List Int).length = 0 := Nat.mod_one t; rw [e]; rfl
  have e2 : bk [b] t = b := by unfold bk; have e : t % ([b] : List Int).length = 0 := Nat.mod_one t; rw [e]; rfl
  rw [e1, e2, day_one b0 l1]
  rcases Int.le_total d b with h | h
  · omega
  · have : (t : Int) * (b - d) ≤ 0 := by
      have := Int.mul_nonneg (show (0 : Int) ≤ (t : Int) by omega) (show 0 ≤ d - b by omega)
      have e3 : (t : Int) * (d - b) = - ((t : Int) * (b - d)) := by rw [← Int.mul_neg]; congr 1; omega
      omega
    omega
theorem sol_one {b d : Int} (b0 : 0 ≤ b) (l1 : 1 ≤ life) (t : Nat) : solS [b] [d] (keepL [b] life) t = min b d := by
  unfold solS
  have e1 : dm [b] [d] t = d := by unfold dm; have e : t % ([b] : List Int).length = 0 := Nat.mod_one t; rw [e]; rfl
  rw [mis_one b0 l1, e1]; omega
theorem psum_same {f : Nat → Int} {c : Int} (h : ∀ j, f j = c) : ∀ n : Nat, psum f n = c * (n : Int)
  | 0 => by show (0 : Int) = c * 0; simp
  | n + 1 => by show psum f n + f n = _; rw [psum_same h n, h, Int.natCast_add, Int.mul_add]; simp
end
end Sw
namespace Sw
/-! ### a shelf by days: rows of what each day's baking has left -/
section
variable {bs ds : List Int} {life : Int}
def psb (bs : List Int) (j : Nat) : Int := psum (bk bs) j
theorem psb_s (j : Nat) : psb bs (j + 1) = psb bs j + bk bs j := rfl
theorem bk_b (gd : Good bs ds) (j : Nat) : 0 ≤ bk bs j := (getD_mem0 gd.b0).1
theorem dm_b (gd : Good bs ds) (j : Nat) : 0 ≤ dm bs ds j := (getD_mem0 gd.d0).1
theorem psb_mono (gd : Good bs ds) (i : Nat) : ∀ n, psb bs i ≤ psb bs (i + n)
  | 0 => Int.le_refl _
  | n + 1 => by
    have := psb_mono gd i n
    have := bk_b gd (i + n)
    have e : psb bs (i + (n + 1)) = psb bs (i + n) + bk bs (i + n) := rfl
    omega
theorem psb_le (gd : Good bs ds) {i j : Nat} (h : i ≤ j) : psb bs i ≤ psb bs j := by
  have := psb_mono gd i (j - i)
  rwa [show i + (j - i) = j by omega] at this
theorem bkI_nat (gd : Good bs ds) (t : Nat) : bkI bs (((t + 1 : Nat) : Int) - 1) = bk bs t := by
  unfold bkI bk
  rw [show ((t + 1 : Nat) : Int) - 1 = (t : Int) by omega, (day_split t bs.length gd.n0).2]
theorem sumNew_is (gd : Good bs ds) : ∀ (f t : Nat), f ≤ t → sumNew bs f (t : Int) = psb bs t - psb bs (t - f)
  | 0, t, _ => by show (0 : Int) = _; rw [Nat.sub_zero]; omega
  | f + 1, 0, h => absurd h (by omega)
  | f + 1, t + 1, h => by
    show bkI bs (((t + 1 : Nat) : Int) - 1) + sumNew bs f (((t + 1 : Nat) : Int) - 1) = _
    rw [bkI_nat gd, show ((t + 1 : Nat) : Int) - 1 = (t : Int) by omega, sumNew_is gd f t (by omega), psb_s, show t + 1 - (f + 1) = t - f by omega]
    omega
theorem sumNew_le (gd : Good bs ds) (d : Int) : ∀ (n f : Nat), sumNew bs f d ≤ sumNew bs (f + n) d
  | 0, f => Int.le_refl _
  | n + 1, f => by
    have h1 := sumNew_le gd d n f
    have e := sumNew_last (bs := bs) (f + n) d
    have b := (bkI_b gd.b0 (d - 1 - ((f + n : Nat) : Int))).1
    rw [show f + (n + 1) = f + n + 1 by omega]
    omega
/-- a day's loaves are of days from 0 on: what is left was baked -/
theorem stock_past0 (gd : Good bs ds) : ∀ t : Nat, dayS bs ds (keepL bs life) t ≤ sumNew bs t (t : Int)
  | 0 => Int.le_refl _
  | t + 1 => by
    have ih := stock_past0 gd t
    have cm : CoM bs ds (keepL bs life) := ⟨gd, keepL_len, fun _ => keepL_nn gd.b0⟩
    have d0 := getD_mem0 (i := t % bs.length) gd.d0
    have b0 := getD_mem0 (i := t % bs.length) gd.b0
    have s0 := dayS_nn cm t
    have eb : bkI bs (((t + 1 : Nat) : Int) - 1) = bs.getD (t % bs.length) 0 := by
      unfold bkI
      rw [show ((t + 1 : Nat) : Int) - 1 = (t : Int) by omega, (day_split t bs.length gd.n0).2]
    show stp _ _ _ _ ≤ bkI bs (((t + 1 : Nat) : Int) - 1) + sumNew bs t (((t + 1 : Nat) : Int) - 1)
    rw [eb, show ((t + 1 : Nat) : Int) - 1 = (t : Int) by omega]
    unfold stp
    omega
/-- what a day's end leaves -/
def topD (bs ds : List Int) (life : Int) (t : Nat) : Int := max 0 (dayS bs ds (keepL bs life) t + bk bs t - dm bs ds t)
theorem day_next (gd : Good bs ds) (l0 : 1 ≤ life) (t : Nat) : dayS bs ds (keepL bs life) (t + 1) = min (topD bs ds life t) (psb bs (t + 1) - psb bs (t + 2 - life.toNat)) := by
  have ek : (keepL bs life).getD (t % bs.length) 0 = sumNew bs (life - 1).toNat ((t : Int) + 1) := by rw [keepL_at (Nat.mod_lt t gd.n0), keepAt_new]
  have e : dayS bs ds (keepL bs life) (t + 1) = min (topD bs ds life t) (sumNew bs (life - 1).toNat ((t : Int) + 1)) := by
    rw [← ek]; rfl
  rw [e]
  by_cases h : (life - 1).toNat ≤ t + 1
  · have z := sumNew_is gd (life - 1).toNat (t + 1) h
    rw [show (((t + 1 : Nat)) : Int) = (t : Int) + 1 by omega] at z
    rw [z, show t + 1 - (life - 1).toNat = t + 2 - life.toNat by omega]
  · have z := sumNew_is gd (t + 1) (t + 1) (Nat.le_refl _)
    have z2 := sumNew_le gd ((t : Int) + 1) ((life - 1).toNat - (t + 1)) (t + 1)
    rw [show t + 1 + ((life - 1).toNat - (t + 1)) = (life - 1).toNat by omega] at z2
    rw [show (((t + 1 : Nat)) : Int) = (t : Int) + 1 by omega] at z
    have p := stock_past0 (life := life) gd t
    rw [sumNew_is gd t t (Nat.le_refl _)] at p
    have e0 : psb bs (t + 1 - (t + 1)) = 0 := by rw [Nat.sub_self]; rfl
    have e1 : psb bs (t - t) = 0 := by rw [Nat.sub_self]; rfl
    have e2 : psb bs (t + 2 - life.toNat) = 0 := by rw [show t + 2 - life.toNat = 0 by omega]; rfl
    have s := psb_s (bs := bs) t
    have d := dm_b gd t
    have bb := bk_b gd t
    have pp := psb_le gd (Nat.zero_le t)
    have p0 : psb bs 0 = 0 := rfl
    unfold topD
    omega
/-- how many loaves of day j and later ones -/
def from_ (bs ds : List Int) (life : Int) (t j : Nat) : Int := min (dayS bs ds (keepL bs life) t) (psb bs t - psb bs j)
def rowL (bs ds : List Int) (life : Int) (t j : Nat) : Int := from_ bs ds life t j - from_ bs ds life t (j + 1)
/-- the shelf when day t has baked: its rows, from day e on -/
def rowB (bs ds : List Int) (life : Int) (t e i : Nat) : Int := if e + i < t then rowL bs ds life t (e + i) else bk bs t
def rowS (bs ds : List Int) (life : Int) (t e i : Nat) : Int := rowB bs ds life t e i - min (max 0 (dm bs ds t - psum (rowB bs ds life t e) i)) (rowB bs ds life t e i)
theorem rowL_nn (gd : Good bs ds) (t j : Nat) : 0 ≤ rowL bs ds life t j := by
  have := psb_s (bs := bs) j
  have := bk_b gd j
  unfold rowL from_
  omega
theorem rowB_nn (gd : Good bs ds) (t e i : Nat) : 0 ≤ rowB bs ds life t e i := by
  unfold rowB
  split
  · exact rowL_nn gd _ _
  · exact bk_b gd t
section
variable {t e : Nat}
theorem rowB_sum (gd : Good bs ds) (he : e ≤ t) (hs : dayS bs ds (keepL bs life) t ≤ psb bs t - psb bs e) : ∀ i, e + i ≤ t + 1 →
    psum (rowB bs ds life t e) i = dayS bs ds (keepL bs life) t + bk bs t - min (dayS bs ds (keepL bs life) t + bk bs t) (psb bs (t + 1) - psb bs (e + i))
  | 0, _ => by
    have := psb_s (bs := bs) t
    show (0 : Int) = _
    rw [show e + 0 = e from rfl]; omega
  | i + 1, h => by
    have ih := rowB_sum gd he hs i (by omega)
    have s0 := dayS_nn (⟨gd, keepL_len, fun _ => keepL_nn gd.b0⟩ : CoM bs ds (keepL bs life)) t
    have b0 := bk_b gd t
    show psum _ i + rowB bs ds life t e i = _
    have s1 := psb_s (bs := bs) t
    have s2 := psb_s (bs := bs) (e + i)
    have b2 := bk_b gd (e + i)
    rw [ih, show e + (i + 1) = e + i + 1 by omega]
    unfold rowB
    by_cases h1 : e + i < t
    · rw [if_pos h1]
      have m := psb_le gd (show e + i + 1 ≤ t by omega)
      unfold rowL from_
      omega
    · rw [if_neg h1]
      have e1 : e + i = t := by omega
      rw [e1] at s2 ⊢
      omega
theorem rowS_is (gd : Good bs ds) (he : e ≤ t) (hs : dayS bs ds (keepL bs life) t ≤ psb bs t - psb bs e) (i : Nat) (hi : e + i ≤ t) :
    rowS bs ds life t e i = min (topD bs ds life t) (psb bs (t + 1) - psb bs (e + i)) - min (topD bs ds life t) (psb bs (t + 1) - psb bs (e + i + 1)) := by
  have a := rowB_sum gd he hs i (by omega)
  have b := rowB_sum gd he hs (i + 1) (by omega)
  have s : psum (rowB bs ds life t e) (i + 1) = psum (rowB bs ds life t e) i + rowB bs ds life t e i := rfl
  rw [show e + (i + 1) = e + i + 1 by omega] at b
  have d := dm_b gd t
  have s2 := psb_s (bs := bs) (e + i)
  have b2 := bk_b gd (e + i)
  have m := psb_le gd (show e + i + 1 ≤ t + 1 by omega)
  have s0 := dayS_nn (⟨gd, keepL_len, fun _ => keepL_nn gd.b0⟩ : CoM bs ds (keepL bs life)) t
  unfold rowS topD
  rw [a]
  generalize rowB bs ds life t e i = r at *
  generalize psum (rowB bs ds life t e) i = u at *
  generalize psum (rowB bs ds life t e) (i + 1) = u' at *
  omega
theorem rowS_nn (gd : Good bs ds) (t e i : Nat) : 0 ≤ rowS bs ds life t e i := by
  have := rowB_nn (life := life) gd t e i
  unfold rowS
  omega
theorem rowS_sum (gd : Good bs ds) (he : e ≤ t) (hs : dayS bs ds (keepL bs life) t ≤ psb bs t - psb bs e) : ∀ k, e + k ≤ t + 1 →
    psum (rowS bs ds life t e) k = topD bs ds life t - min (topD bs ds life t) (psb bs (t + 1) - psb bs (e + k))
  | 0, _ => by
    have := psb_s (bs := bs) t
    have d := dm_b gd t
    have bb := bk_b gd t
    have m := psb_le gd he
    show (0 : Int) = _
    rw [show e + 0 = e from rfl]
    unfold topD
    omega
  | k + 1, h => by
    show psum _ k + _ = _
    rw [rowS_sum gd he hs k (by omega), rowS_is gd he hs k (by omega), show e + (k + 1) = e + k + 1 by omega]
    omega
/-- a day, sold -/
theorem day_sold (gd : Good bs ds) (he : e ≤ t) (hs : dayS bs ds (keepL bs life) t ≤ psb bs t - psb bs e) :
    dm bs ds t - max 0 (dm bs ds t - psum (rowB bs ds life t e) (t + 1 - e)) = solS bs ds (keepL bs life) t := by
  have a := rowB_sum gd he hs (t + 1 - e) (by omega)
  rw [show e + (t + 1 - e) = t + 1 by omega] at a
  have s0 := dayS_nn (⟨gd, keepL_len, fun _ => keepL_nn gd.b0⟩ : CoM bs ds (keepL bs life)) t
  have b0 := bk_b gd t
  unfold solS misS
  rw [a]; omega
/-- a day, closed: k rows go -/
theorem day_closed (gd : Good bs ds) (l0 : 1 ≤ life) (he : e ≤ t) (hs : dayS bs ds (keepL bs life) t ≤ psb bs t - psb bs e) {k : Nat} (hk : k ≤ t + 1 - e)
    (h1 : ∀ i, i < k → life ≤ ((t - e : Nat) : Int) + 1 - (i : Int) ∨ rowS bs ds life t e i = 0) (h2 : k < t + 1 - e → ¬ (life ≤ ((t - e : Nat) : Int) + 1 - (k : Int))) :
    psum (rowS bs ds life t e) k = thrS bs ds (keepL bs life) t ∧ dayS bs ds (keepL bs life) (t + 1) ≤ psb bs (t + 1) - psb bs (e + k) ∧ ∀ i, e + k + i < t + 1 → rowS bs ds life t e (k + i) = rowL bs ds life (t + 1) (e + k + i) := by
  have n := day_next gd l0 t (life := life)
  have sm := rowS_sum gd he hs k (by omega)
  have ge : t + 2 - life.toNat ≤ e + k := by
    by_cases z : k < t + 1 - e
    · have := h2 z; omega
    · omega
  have go : ∀ m, t + 2 - life.toNat + m ≤ e + k → e ≤ t + 2 - life.toNat + m → min (topD bs ds life t) (psb bs (t + 1) - psb bs (e + k)) = min (topD bs ds life t) (psb bs (t + 1) - psb bs (t + 2 - life.toNat + m)) := by
    intro m
    generalize hr : e + k - (t + 2 - life.toNat + m) = r
    induction r generalizing m with
    | zero => intro a b; rw [show t + 2 - life.toNat + m = e + k by omega]
    | succ r ih =>
      intro a b
      rw [ih (m + 1) (by omega) (by omega) (by omega)]
      have z := h1 (t + 2 - life.toNat + m - e) (by omega)
      have w := rowS_is gd he hs (t + 2 - life.toNat + m - e) (by omega)
      rw [show e + (t + 2 - life.toNat + m - e) = t + 2 - life.toNat + m by omega] at w
      rcases z with z | z
      · omega
      · rw [show t + 2 - life.toNat + (m + 1) = t + 2 - life.toNat + m + 1 by omega]
        omega
  have eq : min (topD bs ds life t) (psb bs (t + 1) - psb bs (e + k)) = dayS bs ds (keepL bs life) (t + 1) := by
    rw [n]
    by_cases z : e ≤ t + 2 - life.toNat
    · exact go 0 (by omega) (by omega)
    · have q := go (e - (t + 2 - life.toNat)) (by omega) (by omega)
      rw [show t + 2 - life.toNat + (e - (t + 2 - life.toNat)) = e by omega] at q
      rw [q]
      have m := psb_le gd (show t + 2 - life.toNat ≤ e by omega)
      have s := psb_s (bs := bs) t
      have d := dm_b gd t
      have bb := bk_b gd t
      have m2 := psb_le gd he
      unfold topD
      omega
  have s0 := dayS_nn (⟨gd, keepL_len, fun _ => keepL_nn gd.b0⟩ : CoM bs ds (keepL bs life)) t
  have b0 := bk_b gd t
  have d0 := dm_b gd t
  refine ⟨?_, by omega, fun i hi => ?_⟩
  · rw [sm, eq]
    unfold thrS solS misS topD
    omega
  · have w := rowS_is gd he hs (k + i) (by omega)
    rw [show e + (k + i) = e + k + i by omega] at w
    have m1 := psb_le gd (show e + k ≤ e + k + i by omega)
    have m2 := psb_le gd (show e + k ≤ e + k + i + 1 by omega)
    rw [w]
    unfold rowL from_
    omega
end
end
end Sw
namespace Sw
open PySem PySem.Spec PyProof.Rows L2 Evl
/-! ### a list of anything against the empty list -/
def rNeE (K : PySem.W.Frag) : R2 := fun x y H Q => ∃ a b xs, x = .ref a ∧ y = .ref b ∧ SqL K H a xs ∧ SqL K H b [] ∧ Q (.bl (!decide (xs.length = 0))) H
theorem op_neE {X : Cx} (hu : X.A.units + 64 < cLine) : OpR X (compareOp .NotEq) (rNeE X.K) := by
  intro pins s σ H x y v u Q I rx ry ⟨a, b, xs, ex, ey, h1, h2, q⟩
  subst ex ey
  cases rx
  cases ry
  obtain ⟨its, rv, ⟨o, n, ho, hc, hdn, hd⟩, _⟩ := I.list h1
  obtain ⟨jts, rv2, ⟨o2, n2, ho2, hc2, hdn2, hd2⟩, _⟩ := I.list h2
  have l1 := rv.length
  have l2 := rv2.length
  have A1 : s.heap.IsList a its.toArray := ⟨o, ho, hc, n, hd⟩
  have A2 : s.heap.IsList b jts.toArray := ⟨o2, ho2, hc2, n2, hd2⟩
  have hu' : X.A.units < cLine := by omega
  by_cases hx : xs.length = 0
  · have hq : Q (.bl false) H := by rw [hx] at q; exact q
    have e1 : its.length = 0 := by omega
    have e2 : jts.length = 0 := by rw [← l2]; rfl
    have z := SeqAt.RcNeAt.lists (e := fun _ => true) A1 A2 (by rw [List.size_toArray, List.size_toArray, e1, e2]) hu' (fun j j1 => absurd j1 (by rw [List.size_toArray, e1]; omega))
    have ez : (!(List.range its.toArray.size).all fun _ => true) = false := by rw [List.size_toArray, e1]; rfl
    rw [ez] at z
    exact z _ _ _ _ ⟨.bl false, H, I, rfl, hq⟩
  · have hq : Q (.bl true) H := by simp [hx] at q; exact q
    have e2 : jts.length = 0 := by rw [← l2]; rfl
    exact (SeqAt.RcNeAt.lists_lengths A1 A2 (by rw [List.size_toArray, List.size_toArray, e2]; simp; intro z; apply hx; rw [l1, z]; rfl) hu') _ _ _ _ ⟨.bl true, H, I, rfl, hq⟩
theorem ev_neE {K : PySem.W.Frag} {σ : L2.St} {H : Hp} {ta tb : TE} {p : Addr} {xs : List V} (ha : Ev ta σ H (.ref p)) (hx : SqL K H p xs) (hb : EvL tb σ H []) : Ev (tOp (rNeE K) ta tb) σ H (.bl (!decide (xs.length = 0))) := fun H1 e Q q =>
  ha H1 e _ fun H2 e2 => hb H2 (e.trans e2) _ fun r H3 _ e3 h3 => ⟨p, r, xs, rfl, rfl, ex_l ((e.trans e2).trans e3) hx, sq_of h3, q H3 (e2.trans e3)⟩
end Sw
namespace Sw
open PySem PySem.Spec PyProof.Rows L2 Evl
local macro_rules | `(tactic| walk_at "ev") => `(tactic| first
  | exact ev_c
  | exact ev_var rfl
  | ((with_reducible show Ev (tCB rMax2 _) _ _ _); exact ev_maxi (by walk_at "ev") (by walk_at "ev"))
  | ((with_reducible show Ev (tCB rMn _) _ _ _); exact ev_min2 (by walk_at "ev") (by walk_at "ev"))
  | ((with_reducible show Ev (tUn _ _) _ _ _); exact ev_un (by walk_at "ev") ru_neg)
  | ((with_reducible show Ev (tFld _ _ _) _ _ _); exact ev_fldK (by walk_at "ev") (by assumption))
  | ((with_reducible show Ev (tOp (rI0 _) _ _) _ _ _); exact ev_op (by walk_at "ev") (by walk_at "ev") rv_I0)
  | ((with_reducible show Ev (tOp rEq _ _) _ _ _); exact ev_op (by walk_at "ev") (by walk_at "ev") (rv_eq rfl))
  | ((with_reducible show Ev (tOp rNe _ _) _ _ _); exact ev_op (by walk_at "ev") (by walk_at "ev") (rv_ne rfl)))

/-! ### a list of rows: the rows may change, one by one -/
structure Sh (H : Hp) (S : Addr) (ad : List Addr) (g f : Nat → Int) : Prop where
  hs : H S = some (.lst (ad.map V.ref))
  row : ∀ i p, ad[i]? = some p → H p = some (.lst [.int (g i), .int (f i)])
  nd : ad.Nodup
  out : S ∉ ad
section
variable {K : PySem.W.Frag} {σ : L2.St} {H H' H0 : Hp} {S p l : Addr} {ad : List Addr} {f g f' g' : Nat → Int} {te tf ta tb tc : TE} {v u : V} {xs : List V} {D : Ends} {i j m : Nat}
theorem Sh.mono (h : Sh H S ad g f) (e : Ex H H') : Sh H' S ad g f := ⟨e _ _ h.hs, fun i p q => e _ _ (h.row i p q), h.nd, h.out⟩
theorem Sh.congr (h : Sh H S ad g f) (hg : ∀ i, i < ad.length → g' i = g i) (hf : ∀ i, i < ad.length → f' i = f i) : Sh H S ad g' f' := ⟨h.hs, fun i p q => by
  obtain ⟨lt, _⟩ := List.getElem?_eq_some_iff.mp q
  rw [hg i lt, hf i lt]; exact h.row i p q, h.nd, h.out⟩
theorem nd_at {i j : Nat} (nd : ad.Nodup) (hi : ad[i]? = some p) (hj : ad[j]? = some p) : i = j := by
  obtain ⟨li, ei⟩ := List.getElem?_eq_some_iff.mp hi
  obtain ⟨lj, ej⟩ := List.getElem?_eq_some_iff.mp hj
  exact (List.getElem_inj (h₀ := li) (h₁ := lj) nd).mp (by rw [ei, ej])
theorem Sh.ne (h : Sh H S ad g f) (hi : ad[i]? = some p) : S ≠ p := fun z => h.out (by rw [z]; exact List.mem_of_getElem? hi)
theorem Sh.set {a v : Int} (h : Sh H S ad g f) (hi : ad[i]? = some p) : Sh (upd H p (.lst [.int a, .int v])) S ad (fun j => if j = i then a else g j) (fun j => if j = i then v else f j) :=
  ⟨by rw [upd_ne (h.ne hi)]; exact h.hs, fun j q hj => by
    by_cases z : j = i
    · subst z
      rw [hi] at hj; cases hj
      simp only [if_true]
      exact upd_same
    · have n : q ≠ p := fun w => z (nd_at h.nd (by rw [← w]; exact hj) hi)
      rw [upd_ne n, if_neg z, if_neg z]; exact h.row j q hj, h.nd, h.out⟩
theorem ex_updN {N : Addr → Prop} {o : HO} (e : Ex (wn H N) H') (hN : N p) : Ex (wn H N) (upd H' p o) := fun b u q => by
  obtain ⟨nb, _⟩ := wn_some q
  rw [upd_ne (fun z => nb (by rw [z]; exact hN))]; exact e b u q
/-- xs[j], x = v, u -/
theorem s_subName (hl : H l = some (.lst xs)) (hv : Ev te σ H v) (hu : Ev tf σ H u) (ho : Ev ta σ H (.ref l)) (hi : Ev tb σ H (.int (j : Int))) (hj : j < xs.length) (k : ∀ H1, Ex H H1 → D.nx (σ.set m (some u)) (upd H1 l (.lst (xs.set j v)))) :
    tAsg (tTup (tCons te (tCons tf tNil))) (gTup K 2 (gCons (gSub ta tb rSetL) (gCons (gName m) gNil))) D σ H :=
  hv H (Ex.refl _) _ fun H1 e1 => hu H1 e1 _ fun H2 e2 => ⟨by show 2 ≤ sizeLine; decide, fun r hr => by
    have e3 := (e1.trans e2).trans (Ex.new (o := .tup [v, u]) hr)
    exact ⟨r, [v, u], rfl, st_of upd_same, rfl, _, _, rfl, ho _ e3 _ fun H3 e4 => hi H3 (e3.trans e4) _ fun H4 e5 =>
      ⟨l, xs, (j : Int), j, rfl, rfl, ((e3.trans e4).trans e5) l _ hl, ixN_nat hj, _, _, rfl, rfl, k H4 ((e3.trans e4).trans e5)⟩⟩⟩
/-- x = y + xs.pop(0)[1] -/
theorem s_popRow {o a n : Int} {rest : List V} (hS : H S = some (.lst (.ref p :: rest))) (hp : H p = some (.lst [.int a, .int n])) (ne : p ≠ S) (hA : Ev ta σ H (.int o)) (hB : Ev tb σ H (.ref S)) (hz : ∀ G, Ev tc σ G (.int 0)) (h1 : ∀ G, Ev tf σ G (.int 1))
    (k : ∀ H1 H2, Ex H H1 → Ex (upd H1 S (.lst rest)) H2 → D.nx (σ.set m (some (.int (o + n)))) H2) :
    tAsg (tOp (rI0 fun i j => .int (i + j)) ta (tOp (rIxL K) (tBM K "list" rPopAt tb (tCons tc tNil)) tf)) (gName m) D σ H :=
  hA H (Ex.refl _) _ fun H1 e1 => hB H1 e1 _ fun H2 e2 => ⟨Or.inl ⟨rfl, _, sq_of ((e1.trans e2) _ _ hS)⟩, hz H2 H2 (Ex.refl _) _ fun H3 e3 =>
    ⟨S, _, 0, 0, .ref p, rfl, rfl, ((e1.trans e2).trans e3) _ _ hS, by decide, by decide, by unfold seqIndex?; simp, rfl, h1 _ _ (Ex.refl _) _ fun H4 e4 =>
      ⟨p, [.int a, .int n], 1, .int n, rfl, rfl, sq_of (e4 _ _ (by rw [upd_ne ne]; exact ((e1.trans e2).trans e3) _ _ hp)), rfl, o, n, rfl, rfl, k H3 H4 ((e1.trans e2).trans e3) e4⟩⟩⟩
end
variable {P : Program} {w : World} {K : PySem.W.Frag} {mg : Str → Option Value} {base : Heap} {Z : Ad}
def cutF (f : Nat → Int) (c : Int) (i : Nat) : Int := f i - min (max 0 (c - psum f i)) (f i)
def sp_sold : Sp := fun vs H Q _ => ∃ (S : Addr) (ad : List Addr) (g f : Nat → Int) (c : Int), vs = [.ref S, .int c] ∧ Sh H S ad g f ∧ ad.length ≤ 1000 ∧ 0 ≤ c ∧ (∀ i, 0 ≤ f i) ∧
  ∀ H', Ex (wn H fun b => b ∈ ad) H' → Sh H' S ad g (cutF f c) → Q (.int (c - max 0 (c - psum f ad.length))) H'
theorem ok__law_sold (T : Txt K mg Z) : FnOk P w K mg base CX0 1 Z.f__law_sold Z.d__law_sold p__law_sold sp_sold := by
  refine T.F__law_sold.ok sc__law_sold (fun vs H Q E h => ?_) (fun cdv Ar outer s H vs Q E hr h => ?_)
  · obtain ⟨S, ad, g, f, c, rfl, _⟩ := h
    rfl
  · obtain ⟨S, ad, g, f, c, rfl, hS, hn, c0, f0, k⟩ := h
    have hl : ((ad.map V.ref).length : Int) = (ad.length : Int) := by rw [List.length_map]
    refine ⟨_, (pss_cons (ps_set (i := 2) sc__law_sold.nd rfl (Or.inl rfl) (pv 1))
      (pss_cons (ps_for PassesOwn.never rfl (pi_range1 (by rfl) T.b_range (pa_cons (pe_callB (r := rLenS K) (call_len_seq) (by rfl) T.b_len boot_len (pa_cons (pv 0) pa_nil)) pa_nil)) (pg_name (i := 3) sc__law_sold.nd rfl (Or.inl rfl)) (pss_cons (ps_set (i := 4) sc__law_sold.nd rfl (Or.inl rfl) (pe_callB (r := rMn) (call_min2 rfl) (by rfl) T.b_min boot_min (pa_cons (pv 2) (pa_cons (pe_ix (r := rIxL K) ix_list (pe_ix (r := rIxL K) ix_list (pv 0) (pv 3) (fun _ _ => rfl)) pe_int (fun _ _ => rfl)) pa_nil))))
      (pss_one (ps_asg (pe_tup (pa_cons (pe_op op_sub (pe_ix (r := rIxL K) ix_list (pe_ix (r := rIxL K) ix_list (pv 0) (pv 3) (fun _ _ => rfl)) pe_int (fun _ _ => rfl)) (pv 4)) (pa_cons (pe_op op_sub (pv 2) (pv 4)) pa_nil))) (by exact (pg_tupK K (n := 2) rfl rfl (pgs_cons (pg_sub (pe_ix (r := rIxL K) ix_list (pv 0) (pv 3) (fun _ _ => rfl)) pe_int set_list) (pgs_cons (pg_name (i := 2) sc__law_sold.nd rfl (Or.inl rfl)) pgs_nil))))))))
      (pss_one (ps_ret (pe_op op_sub (pv 1) (pv 2)))))), ?_⟩
    refine q_asg (ev_var rfl) fun H1 e1 => ?_
    refine q_forR1 (n := (ad.length : Int)) (ea_cons (Ev.int_eq (ev_len (ev_var rfl) (sq_of (e1 _ _ hS.hs))) hl) ea_nil) ⟨by omega, by omega⟩ (fun i σ' H' => (∃ x3 x4, σ' = [some (.ref S), some (.int c), some (.int (max 0 (c - psum f i))), x3, x4]) ∧ Ex (wn H fun b => b ∈ ad) H' ∧ Sh H' S ad g (fun j => if j < i then cutF f c j else f j))
      (fun H2 e2 => ⟨⟨none, none, by rw [show max 0 (c - psum f 0) = c by show max 0 (c - 0) = c; omega]; rfl⟩, wn_ex.trans (e1.trans e2), (hS.mono (e1.trans e2)).congr (fun _ _ => rfl) fun i _ => if_neg (Nat.not_lt_zero i)⟩) ?_ ?_
    · rintro i σ' H' hi ⟨⟨x3, x4, rfl⟩, eN, hS'⟩
      have hlt : i < ad.length := by omega
      obtain ⟨p, hp⟩ : ∃ p, ad[i]? = some p := ⟨_, List.getElem?_eq_getElem hlt⟩
      have hr := hS'.row i p hp
      rw [if_neg (Nat.lt_irrefl i)] at hr
      have at_ : atI (ad.map V.ref) (i : Int) = some (.ref p) := atI_nat (by rw [List.getElem?_map, hp]; rfl)
      have ev1 : ∀ {σ : L2.St} {G : Hp} {ta tb tc : TE}, Ex H' G → Ev ta σ G (.ref S) → Ev tb σ G (.int (i : Int)) → Ev tc σ G (.int 1) → Ev (tOp (rIxL K) (tOp (rIxL K) ta tb) tc) σ G (.int (f i)) := fun e h1 h2 h3 => ev_ixL (ev_ixL h1 (sq_of (e _ _ hS'.hs)) h2 at_) (sq_of (e _ _ hr)) h3 rfl
      refine q_asg (ev_min2 (ev_var rfl) (ev1 (Ex.refl _) (ev_var rfl) (ev_var rfl) ev_c)) fun H2 e2 => ?_
      refine s_subName (j := 1) (e2 _ _ hr) (ev_op (ev1 e2 (ev_var rfl) (ev_var rfl) ev_c) (ev_var rfl) rv_I0) (ev_op (ev_var rfl) (ev_var rfl) rv_I0) (ev_ixL (ev_var rfl) (sq_of (e2 _ _ hS'.hs)) (ev_var rfl) at_) ev_c (by show 1 < 2; decide) fun H3 e3 => ?_
      have fi := f0 i
      refine ⟨⟨some (.int (i : Int)), some (.int (min (max 0 (c - psum f i)) (f i))), ?_⟩, ex_updN (eN.trans (e2.trans e3)) (List.mem_of_getElem? hp), ?_⟩
      · have e : max 0 (c - psum f i) - min (max 0 (c - psum f i)) (f i) = max 0 (c - psum f (i + 1)) := by
          show _ = max 0 (c - (psum f i + f i)); omega
        rw [← e]; rfl
      · refine (((hS'.mono (e2.trans e3)).set (a := g i) (v := f i - min (max 0 (c - psum f i)) (f i)) hp)).congr (fun j hj => ?_) fun j hj => ?_
        · by_cases z : j = i
          · rw [if_pos z, z]
          · rw [if_neg z]
        · by_cases z : j = i
          · rw [if_pos z, if_pos (by omega), z]; rfl
          · rw [if_neg z]
            by_cases w : j < i
            · rw [if_pos w, if_pos (by omega)]
            · rw [if_neg w, if_neg (by omega)]
    · rintro σ' H' ⟨⟨x3, x4, rfl⟩, eN, hS'⟩
      rw [Int.toNat_natCast] at hS' ⊢
      exact s_ret (ev_op (ev_var rfl) (ev_var rfl) rv_I0) fun H2 e2 => k H2 (eN.trans e2) ((hS'.mono e2).congr (fun _ _ => rfl) fun i hi => (if_pos hi).symm)
def sp_closed : Sp := fun vs H Q _ => ∃ (S : Addr) (ad : List Addr) (a0 : Int) (f : Nat → Int) (life : Int), vs = [.ref S, .int life] ∧ Sh H S ad (fun i => a0 - (i : Int)) f ∧ ad.length ≤ 1000 ∧
  ∀ (k : Nat) H', k ≤ ad.length → (∀ i, i < k → life ≤ a0 + 1 - (i : Int) ∨ f i = 0) → (k < ad.length → ¬ life ≤ a0 + 1 - (k : Int)) → Ex (wn H fun b => b = S ∨ b ∈ ad) H' → Sh H' S (ad.drop k) (fun i => a0 + 1 - (k : Int) - (i : Int)) (fun i => f (k + i)) → Q (.int (psum f k)) H'
theorem ok__law_closed (T : Txt K mg Z) : FnOk P w K mg base CX0 1 Z.f__law_closed Z.d__law_closed p__law_closed sp_closed := by
  refine T.F__law_closed.ok sc__law_closed (fun vs H Q E h => ?_) (fun cdv Ar outer s H vs Q E hr h => ?_)
  · obtain ⟨S, ad, a0, f, life, rfl, _⟩ := h
    rfl
  · obtain ⟨S, ad, a0, f, life, rfl, hS, hn, k⟩ := h
    refine ⟨_, (pss_cons (ps_set (i := 2) sc__law_closed.nd rfl (Or.inl rfl) pe_int)
      (pss_cons (ps_for PassesOwn.never rfl (pi_listK K rfl (pv 0)) (pg_name (i := 3) sc__law_closed.nd rfl (Or.inl rfl)) (pss_one (ps_asg (pe_op op_add (pe_ix (r := rIxL K) ix_list (pv 3) pe_int (fun _ _ => rfl)) pe_int) (pg_sub (pv 3) pe_int set_list))))
      (pss_cons (ps_while PassesOwn.never (PW.pt (pw_and (pt_cmpR (op_neE hr.units) (pv 0) (pe_lst pa_nil) (nomark _)) (pw_and1 (PW.pt (pw_or (pt_cmpR op_ge (pe_ix (r := rIxL K) ix_list (pe_ix (r := rIxL K) ix_list (pv 0) pe_int (fun _ _ => rfl)) pe_int (fun _ _ => rfl)) (pv 1) (nomark _)) (pw_or1 (pt_cmpR op_eq (pe_ix (r := rIxL K) ix_list (pe_ix (r := rIxL K) ix_list (pv 0) pe_int (fun _ _ => rfl)) pe_int (fun _ _ => rfl)) pe_int (nomark _)))))))) (pss_one (ps_set (i := 2) sc__law_closed.nd rfl (Or.inl rfl) (pe_op op_add (pv 2) (pe_ix (r := rIxL K) ix_list (pe_bm PySem.F.plainAttrs_list PySem.F.slot_list_pop PySem.F.type_list_pop mt_popAt (pv 0) (pa_cons pe_int pa_nil)) pe_int (fun _ _ => rfl))))))
      (pss_one (ps_ret (pv 2)))))), ?_⟩
    refine q_asg ev_c fun H1 e1 => ?_
    refine q_forLn (ev_var rfl) (sq_of (e1 _ _ hS.hs)) (fun i σ' H' => (∃ x3, σ' = [some (.ref S), some (.int life), some (.int 0), x3]) ∧ Ex (wn H fun b => b = S ∨ b ∈ ad) H' ∧ Sh H' S ad (fun j => if j < i then a0 + 1 - (j : Int) else a0 - (j : Int)) f)
      (fun H2 e2 => ⟨⟨_, rfl⟩, wn_ex.trans (e1.trans e2), (hS.mono (e1.trans e2)).congr (fun i _ => if_neg (Nat.not_lt_zero i)) fun _ _ => rfl⟩) (fun _ _ _ _ q => sq_of q.2.2.hs) ?_ ?_
    · rintro i x σ' H' hx ⟨⟨x3, rfl⟩, eN, hS'⟩
      rw [List.getElem?_map] at hx
      obtain ⟨p, hp, rfl⟩ := Option.map_eq_some_iff.mp hx
      have hr := hS'.row i p hp
      rw [if_neg (Nat.lt_irrefl i)] at hr
      refine s_setL (j := 0) hr (ev_op (ev_ixL (ev_var rfl) (sq_of hr) ev_c rfl) ev_c rv_I0) (ev_var rfl) ev_c (by show 0 < 2; decide) fun H3 e3 => ?_
      refine ⟨⟨_, rfl⟩, ex_updN (eN.trans e3) (.inr (List.mem_of_getElem? hp)), ?_⟩
      refine ((hS'.mono e3).set (a := a0 - (i : Int) + 1) (v := f i) hp).congr (fun j hj => ?_) fun j hj => ?_
      · by_cases z : j = i
        · rw [if_pos z, if_pos (by omega), z]; omega
        · rw [if_neg z]
          by_cases w : j < i
          · rw [if_pos w, if_pos (by omega)]
          · rw [if_neg w, if_neg (by omega)]
      · by_cases z : j = i
        · rw [if_pos z, z]
        · rw [if_neg z]
    rintro σ' H' ⟨⟨x3, rfl⟩, eN, hS'⟩
    have hS1 : Sh H' S ad (fun j => a0 + 1 - (j : Int)) f := hS'.congr (fun j hj => by rw [if_pos (by rw [List.length_map]; exact hj)]) fun _ _ => rfl
    refine q_while (fun m σ' H' => ∃ j : Nat, m = ad.length - j ∧ j ≤ ad.length ∧ (∀ i, i < j → life ≤ a0 + 1 - (i : Int) ∨ f i = 0) ∧ σ' = [some (.ref S), some (.int life), some (.int (psum f j)), x3] ∧ Ex (wn H fun b => b = S ∨ b ∈ ad) H' ∧ Sh H' S (ad.drop j) (fun i => a0 + 1 - (j : Int) - (i : Int)) (fun i => f (j + i))) ad.length
      ⟨0, rfl, Nat.zero_le _, fun i hi => absurd hi (Nat.not_lt_zero i), rfl, eN, hS1.congr (fun i _ => by omega) fun i _ => by rw [Nat.zero_add]⟩ ?_
    rintro m σ' H' ⟨j, rfl, hj, hc, rfl, eN, hS'⟩
    have hlen : ((ad.drop j).map V.ref).length = ad.length - j := by rw [List.length_map, List.length_drop]
    have nE : ∀ {G : Hp}, Ex H' G → Ev _ _ G _ := fun {G} e => ev_neE (K := K) (σ := [some (.ref S), some (.int life), some (.int (psum f j)), x3]) (ev_var (i := 0) rfl) (sq_of (e _ _ hS'.hs)) (el_lst ea_nil (by decide))
    by_cases z : j < ad.length
    · obtain ⟨p, hp⟩ : ∃ p, (ad.drop j)[0]? = some p := ⟨_, List.getElem?_eq_getElem (by rw [List.length_drop]; omega)⟩
      have hr := hS'.row 0 p hp
      have er : ad.drop j = p :: ad.drop (j + 1) := by
        rw [List.getElem?_drop, Nat.add_zero] at hp
        obtain ⟨lt, e⟩ := List.getElem?_eq_some_iff.mp hp
        rw [List.drop_eq_getElem_cons lt, e]
      have hS0 := hS'.hs
      rw [er] at hS0
      have hr' : H' p = some (.lst [.int (a0 + 1 - (j : Int)), .int (f j)]) := by
        have e1 : a0 + 1 - (j : Int) - ((0 : Nat) : Int) = a0 + 1 - (j : Int) := by omega
        have e2 : f (j + 0) = f j := rfl
        rw [e1, e2] at hr; exact hr
      have ev1 : ∀ {σ : L2.St} {G : Hp} {ta tb tc : TE} {q : Int} {v : V}, Ex H' G → Ev ta σ G (.ref S) → Ev tb σ G (.int 0) → Ev tc σ G (.int q) → atI [V.int (a0 + 1 - (j : Int)), .int (f j)] q = some v → Ev (tOp (rIxL K) (tOp (rIxL K) ta tb) tc) σ G v := fun e h1 h2 h3 h4 => ev_ixL (ev_ixL h1 (sq_of (e _ _ hS0)) h2 (by exact atI_nat (j := 0) rfl)) (sq_of (e _ _ hr')) h3 h4
      refine ⟨decide (life ≤ a0 + 1 - (j : Int)) || decide (f j = 0), et_is (et_and (et_test (nE (Ex.refl _))) fun _ => et_or (et_test (ev_op (ev1 (Ex.refl _) (ev_var rfl) ev_c ev_c rfl) (ev_var rfl) rv_I0)) fun _ => et_test (ev_op (ev1 (Ex.refl _) (ev_var rfl) ev_c ev_c rfl) ev_c (rv_eq rfl))) ?_, fun hb H5 e5 => ?_, fun hb H5 e5 => ?_⟩
      · have ne : ¬ ad.length - j = 0 := by omega
        have w : (V.int (f j) = V.int 0) ↔ f j = 0 := ⟨fun z => by injection z, fun z => by rw [z]⟩
        rw [hlen]
        simp [ne, w]
      · refine ⟨fun σ2 H2 => ∃ m', m' < ad.length - j ∧ ∃ j : Nat, m' = ad.length - j ∧ j ≤ ad.length ∧ (∀ i, i < j → life ≤ a0 + 1 - (i : Int) ∨ f i = 0) ∧ σ2 = [some (.ref S), some (.int life), some (.int (psum f j)), x3] ∧ Ex (wn H fun b => b = S ∨ b ∈ ad) H2 ∧ Sh H2 S (ad.drop j) (fun i => a0 + 1 - (j : Int) - (i : Int)) (fun i => f (j + i)), fun _ _ h => h, ?_⟩
        refine s_popRow (p := p) (rest := (ad.drop (j + 1)).map V.ref) (e5 _ _ hS0) (e5 _ _ hr') (fun w => hS'.out (by rw [er, ← w]; exact List.mem_cons_self)) (ev_var rfl) (ev_var rfl) (fun _ => ev_c) (fun _ => ev_c) fun H6 H7 e6 e7 => ?_
        refine ⟨_, (by omega : ad.length - (j + 1) < ad.length - j), j + 1, rfl, by omega, fun i hi => ?_, rfl, (ex_updN (eN.trans (e5.trans e6)) (.inl rfl)).trans e7, ?_⟩
        · by_cases q : i = j
          · rw [q]; simpa using hb
          · exact hc i (by omega)
        · have nd := hS'.nd
          have out := hS'.out
          rw [er] at nd out
          refine ⟨e7 _ _ upd_same, fun i q hq => e7 _ _ ?_, (List.nodup_cons.mp nd).2, fun w => out (List.mem_cons_of_mem _ w)⟩
          have hq2 : (ad.drop j)[i + 1]? = some q := by rw [er]; exact hq
          have ne : q ≠ S := fun w => hS'.out (by rw [← w]; exact List.mem_of_getElem? hq2)
          have z := hS'.row (i + 1) q hq2
          rw [upd_ne ne]
          have e1 : a0 + 1 - ((j + 1 : Nat) : Int) - (i : Int) = a0 + 1 - (j : Int) - ((i + 1 : Nat) : Int) := by omega
          have e2 : f (j + 1 + i) = f (j + (i + 1)) := by rw [show j + 1 + i = j + (i + 1) by omega]
          show H6 q = some (.lst [.int (a0 + 1 - ((j + 1 : Nat) : Int) - (i : Int)), .int (f (j + 1 + i))])
          rw [e1, e2]
          exact (e5.trans e6) _ _ z
      · have hb' : ¬ life ≤ a0 + 1 - (j : Int) := by
          have := hb; simp at this; omega
        exact s_ret (ev_var rfl) fun H6 e6 => k j H6 hj hc (fun _ => hb') (eN.trans (e5.trans e6)) (hS'.mono (e5.trans e6))
    · have ej : j = ad.length := by omega
      refine ⟨false, et_is (et_and (b := false) (et_test (nE (Ex.refl _))) fun hb => ?_) ?_, (fun hb => nomatch hb), fun _ H5 e5 => ?_⟩
      · rw [hlen] at hb
        simp [show ad.length - j = 0 by omega] at hb
      · rw [hlen]
        simp [show ad.length - j = 0 by omega]
      · exact s_ret (ev_var rfl) fun H6 e6 => k j H6 hj hc (fun q => absurd q z) (eN.trans (e5.trans e6)) (hS'.mono (e5.trans e6))
end Sw
namespace Sw
open PySem PySem.Spec PyProof.Rows L2 Evl
local macro_rules | `(tactic| walk_at "ev") => `(tactic| first
  | exact ev_c
  | exact ev_var rfl
  | ((with_reducible show Ev (tCB rMax2 _) _ _ _); exact ev_maxi (by walk_at "ev") (by walk_at "ev"))
  | ((with_reducible show Ev (tCB rMn _) _ _ _); exact ev_min2 (by walk_at "ev") (by walk_at "ev"))
  | ((with_reducible show Ev (tUn _ _) _ _ _); exact ev_un (by walk_at "ev") ru_neg)
  | ((with_reducible show Ev (tFld _ _ _) _ _ _); exact ev_fldK (by walk_at "ev") (by assumption))
  | ((with_reducible show Ev (tOp (rI0 _) _ _) _ _ _); exact ev_op (by walk_at "ev") (by walk_at "ev") rv_I0)
  | ((with_reducible show Ev (tOp rEq _ _) _ _ _); exact ev_op (by walk_at "ev") (by walk_at "ev") (rv_eq rfl))
  | ((with_reducible show Ev (tOp rNe _ _) _ _ _); exact ev_op (by walk_at "ev") (by walk_at "ev") (rv_ne rfl)))

/-! ### the law's draws: a list of the script, a position, a seed, a rest -/
def HS (H : Hp) (h l : Addr) : Prop := ∃ pos m rest : Int, H h = some (.lst [.ref l, .int pos, .int m, .int rest]) ∧ 0 ≤ pos ∧ 0 ≤ m ∧ m < 2147483647 ∧ 0 ≤ rest
def hl (h _l : Addr) : Addr → Prop := fun b => b = h
theorem HS.mono {H H' : Hp} {h l : Addr} (e : Ex H H') (q : HS H h l) : HS H' h l :=
  let ⟨p, m, r, h1, z⟩ := q; ⟨p, m, r, e _ _ h1, z⟩
theorem HS.kn {H : Hp} {h l : Addr} (q : HS H h l) : ∀ b, hl h l b → H b ≠ none := by
  obtain ⟨_, _, _, h1, _⟩ := q
  rintro b rfl z
  rw [h1] at z; cases z
/-- a draw may change h, and makes what it likes -/
structure Dr (h l : Addr) (H H' : Hp) : Prop where
  hs : HS H' h l
  ex : Ex (wn H (hl h l)) (wn H' (hl h l))
theorem Dr.trans {h l : Addr} {H H1 H2 : Hp} (a : Dr h l H H1) (b : Dr h l H1 H2) : Dr h l H H2 := ⟨b.hs, a.ex.trans b.ex⟩
theorem Dr.refl {h l : Addr} {H : Hp} (q : HS H h l) : Dr h l H H := ⟨q, Ex.refl _⟩
theorem Dr.of {h l : Addr} {H H' : Hp} (q : HS H h l) (e : Ex H H') : Dr h l H H' := ⟨q.mono e, wn_mono e⟩
def sp_drawn (K : PySem.W.Frag) : Sp := fun vs H Q _ => ∃ (h l : Addr) (cells : List Int) (count : Int), vs = [.ref h, .int count] ∧ 0 < count ∧ count ≤ 1000000000000000000 ∧ HS H h l ∧ SqL K (wn H (hl h l)) l (cells.map V.int) ∧ ∀ v H', 0 ≤ v → v < count → Dr h l H H' → Q (.int v) H'
section
variable {K : PySem.W.Frag} {σ : L2.St} {H H' : Hp} {ta tb te tx : TE} {x y z v : V} {a h l : Addr} {xs ys : List V}
theorem el_cat (ha : Ev ta σ H (.ref a)) (hx : H a = some (.lst xs)) (hb : EvL tb σ H ys) (hz : xs.length + ys.length ≤ 100000) : EvL (tOp rCat ta tb) σ H (xs ++ ys) := fun H1 e Q q =>
  ha H1 e _ fun H2 e2 => hb H2 (e.trans e2) _ fun p H3 _ e3 hp => ⟨a, p, xs, ys, rfl, rfl, e3 _ _ (e2 _ _ (e _ _ hx)), hp, sz_of hz, fun r hr => q r _ (fresh_back (e2.trans e3) hr) ((e2.trans e3).trans (Ex.new hr)) upd_same⟩
theorem Dr.upd {o : HO} (hN : hl h l a) (q : HS (L2.upd H a o) h l) : Dr h l H (L2.upd H a o) := ⟨q, wn_upd hN⟩
end
variable {P : Program} {w : World} {K : PySem.W.Frag} {mg : Str → Option Value} {base : Heap} {Z : Ad}
def sp_start (K : PySem.W.Frag) : Sp := fun vs H Q _ => ∃ (a : Addr) (ns : List Int), vs = [.ref a] ∧ SqL K H a (ns.map V.int) ∧ ns.length ≤ 63 ∧ ∀ h H', H h = none → Ex H H' → HS H' h a → Q (.ref h) H'
theorem ok__law_start (T : Txt K mg Z) : FnOk P w K mg base CX0 1 Z.f__law_start Z.d__law_start p__law_start (sp_start K) := by
  refine T.F__law_start.ok sc__law_start (fun vs H Q E h => ?_) (fun cdv Ar outer s H vs Q E hr h => ?_)
  · obtain ⟨a, ns, rfl, _⟩ := h
    rfl
  · obtain ⟨a, ns, rfl, hS, hn, k⟩ := h
    refine ⟨_, (pss_cons (ps_set (i := 1) sc__law_start.nd rfl (Or.inl rfl) pe_int)
      (pss_cons (ps_for PassesOwn.never rfl (pi_listK K rfl (pv 0)) (pg_name (i := 2) sc__law_start.nd rfl (Or.inl rfl)) (pss_one (ps_set (i := 1) sc__law_start.nd rfl (Or.inl rfl) (pe_op op_mod (pe_op op_add (pe_op op_add (pe_op op_mul (pv 1) pe_int) (pv 2)) pe_int) pe_int))))
      (pss_one (ps_ret (pe_lst (pa_cons (pv 0) (pa_cons pe_int (pa_cons (pv 1) (pa_cons pe_int pa_nil))))))))), ?_⟩
    refine q_asg ev_c fun H1 e1 => ?_
    refine q_forLn (ev_var rfl) (ex_l e1 hS) (fun i σ' H' => (∃ m x, σ' = [some (.ref a), some (.int m), x] ∧ 0 ≤ m ∧ m < 2147483647) ∧ Ex H H') (fun H2 e2 => ⟨⟨1, _, rfl, by decide, by decide⟩, e1.trans e2⟩) (fun i σ' H' _ p => ex_l p.2 hS) ?_ ?_
    · rintro i x σ' H' hx ⟨⟨m, _, rfl, m0, m1⟩, e2⟩
      obtain ⟨rfl, hi⟩ := at_map hx
      refine s_asg (ev_op (ev_op (ev_op (ev_op (ev_var rfl) ev_c (rv_I (wide_ok (by decide)))) (ev_var rfl) rv_I0) ev_c rv_I0) ev_c (rv_I (by show (0 : Int) < 2147483647; decide))) fun H2 e3 => ?_
      exact ⟨⟨_, _, rfl, Int.emod_nonneg _ (by decide), Int.emod_lt_of_pos _ (by decide)⟩, e2.trans e3⟩
    · rintro σ' H' ⟨⟨m, _, rfl, m0, m1⟩, e2⟩
      refine ⟨_, rfl, _, rfl, by show 4 ≤ sizeLine; decide, fun r hr => k r _ (fresh_back e2 hr) (e2.trans (Ex.new hr)) ⟨0, m, 0, upd_same, by decide, m0, m1, by decide⟩⟩
theorem ok__law_drawn (T : Txt K mg Z) : FnOk P w K mg base CX0 1 Z.f__law_drawn Z.d__law_drawn p__law_drawn (sp_drawn K) := by
  refine T.F__law_drawn.ok sc__law_drawn (fun vs H Q E h => ?_) (fun cdv Ar outer s H vs Q E hr h => ?_)
  · obtain ⟨a, l, cells, count, rfl, _⟩ := h
    rfl
  · obtain ⟨a, l, cells, count, rfl, p0, p1, hs, hS, k⟩ := h
    obtain ⟨pos, m, rest, h1, q0, m0, m1, r0⟩ := id hs
    have ix0 : ∀ {σ : L2.St} {G : Hp} {te : TE} {p' m' r' : Int}, Ev te σ G (.ref a) → G a = some (.lst [.ref l, .int p', .int m', .int r']) → Ev (tOp (rIxL K) te (tC (.int 0))) σ G (.ref l) := fun he hg => ev_ixL he (sq_of hg) ev_c rfl
    have ix1 : ∀ {σ : L2.St} {G : Hp} {te : TE} {p' m' r' : Int}, Ev te σ G (.ref a) → G a = some (.lst [.ref l, .int p', .int m', .int r']) → Ev (tOp (rIxL K) te (tC (.int 1))) σ G (.int p') := fun he hg => ev_ixL he (sq_of hg) ev_c rfl
    have ix2 : ∀ {σ : L2.St} {G : Hp} {te : TE} {p' m' r' : Int}, Ev te σ G (.ref a) → G a = some (.lst [.ref l, .int p', .int m', .int r']) → Ev (tOp (rIxL K) te (tC (.int 2))) σ G (.int m') := fun he hg => ev_ixL he (sq_of hg) ev_c rfl
    have ix3 : ∀ {σ : L2.St} {G : Hp} {te : TE} {p' m' r' : Int}, Ev te σ G (.ref a) → G a = some (.lst [.ref l, .int p', .int m', .int r']) → Ev (tOp (rIxL K) te (tC (.int 3))) σ G (.int r') := fun he hg => ev_ixL he (sq_of hg) ev_c rfl
    have p10 : (10 : Int) ^ (18 : Int).toNat = 1000000000000000000 := by decide
    have hlen : (((cells.map V.int).length : Nat) : Int) = (cells.length : Int) := by rw [List.length_map]
    refine ⟨_, (pss_cons (ps_if (pt_cmpR op_gt (pe_ix (r := rIxL K) ix_list (pv 0) pe_int (fun _ _ => rfl)) pe_int (nomark _)) (pss_cons (ps_set (i := 2) sc__law_drawn.nd rfl (Or.inl rfl) (pe_op op_mod (pe_ix (r := rIxL K) ix_list (pv 0) pe_int (fun _ _ => rfl)) (pv 1)))
      (pss_cons (ps_asg (pe_op op_fdivW (pe_ix (r := rIxL K) ix_list (pv 0) pe_int (fun _ _ => rfl)) (pv 1)) (pg_sub (pv 0) pe_int set_list))
      (pss_one (ps_ret (pv 2))))) pss_nil)
      (pss_cons (ps_asg (pe_op op_add (pe_ix (r := rIxL K) ix_list (pv 0) pe_int (fun _ _ => rfl)) pe_int) (pg_sub (pv 0) pe_int set_list))
      (pss_cons (ps_if (pt_cmpR op_le (pe_ix (r := rIxL K) ix_list (pv 0) pe_int (fun _ _ => rfl)) (pe_callB (r := rLenS K) (call_len_seq) (by rfl) T.b_len boot_len (pa_cons (pe_ix (r := rIxL K) ix_list (pv 0) pe_int (fun _ _ => rfl)) pa_nil)) (nomark _)) (pss_cons (ps_set (i := 3) sc__law_drawn.nd rfl (Or.inl rfl) (pe_ix (r := rIxL K) ix_list (pe_ix (r := rIxL K) ix_list (pv 0) pe_int (fun _ _ => rfl)) (pe_op op_sub (pe_ix (r := rIxL K) ix_list (pv 0) pe_int (fun _ _ => rfl)) pe_int) (fun _ _ => rfl)))
      (pss_cons (ps_asg (pe_ifExp (pt_cmpR op_ge (pv 3) (pe_op op_pow pe_int pe_int) (nomark _)) (pe_op op_fdivW (pv 3) (pv 1)) pe_int) (pg_sub (pv 0) pe_int set_list))
      (pss_one (ps_ret (pe_op op_mod (pv 3) (pv 1)))))) pss_nil)
      (pss_cons (ps_asg (pe_op op_mod (pe_op op_add (pe_op op_mul (pe_ix (r := rIxL K) ix_list (pv 0) pe_int (fun _ _ => rfl)) pe_int) pe_int) pe_int) (pg_sub (pv 0) pe_int set_list))
      (pss_one (ps_ret (pe_op op_mod (pe_op op_fdivW (pe_ix (r := rIxL K) ix_list (pv 0) pe_int (fun _ _ => rfl)) pe_int) (pv 1)))))))), ?_⟩
    refine q_when (b := decide ((0 : Int) < rest)) (et_test (ev_is (ev_op (ix3 (ev_var rfl) h1) ev_c rv_I0) rfl)) (fun hb H1 e1 => ?_) (fun hb H1 e1 => ?_)
    · have a1 := e1 _ _ h1
      refine q_asg (v := .int (rest % count)) (ev_op (ix3 (ev_var rfl) a1) (ev_var rfl) (rv_I p0)) fun H2 e2 => ?_
      have a2 := e2 _ _ a1
      refine q_setL (j := 3) (v := .int (rest / count)) a2 (ev_op (ix3 (ev_var rfl) a2) (ev_var rfl) (rv_I (wide_div (b := 60) p0 (by omega) (by decide) (by decide)))) (ev_var rfl) ev_c (by show 3 < 4; decide) fun H3 e3 => ?_
      have d1 : (upd H3 a (.lst (([.ref l, .int pos, .int m, .int rest] : List V).set 3 (.int (rest / count))))) a = some (.lst [.ref l, .int pos, .int m, .int (rest / count)]) := upd_same
      have q3 : HS (upd H3 a (.lst (([.ref l, .int pos, .int m, .int rest] : List V).set 3 (.int (rest / count))))) a l := ⟨_, _, _, d1, q0, m0, m1, Int.ediv_nonneg r0 (by omega)⟩
      refine s_ret (ev_var rfl) fun H4 e4 => ?_
      exact k _ _ (Int.emod_nonneg _ (by omega)) (Int.emod_lt_of_pos _ p0) (((Dr.of hs ((e1.trans e2).trans e3)).trans (Dr.upd rfl q3)).trans (Dr.of q3 e4))
    · have a1 := e1 _ _ h1
      refine q_setL (j := 1) (v := .int (pos + 1)) a1 (ev_op (ix1 (ev_var rfl) a1) ev_c rv_I0) (ev_var rfl) ev_c (by show 1 < 4; decide) fun H2 e2 => ?_
      have d1 : (upd H2 a (.lst (([.ref l, .int pos, .int m, .int rest] : List V).set 1 (.int (pos + 1))))) a = some (.lst [.ref l, .int (pos + 1), .int m, .int rest]) := upd_same
      have q3 : HS (upd H2 a (.lst (([.ref l, .int pos, .int m, .int rest] : List V).set 1 (.int (pos + 1))))) a l := ⟨_, _, _, d1, by omega, m0, m1, r0⟩
      have D3 := (Dr.of hs (e1.trans e2)).trans (Dr.upd rfl q3)
      generalize upd H2 a (.lst (([.ref l, .int pos, .int m, .int rest] : List V).set 1 (.int (pos + 1)))) = S3 at d1 q3 D3 ⊢
      have hS3 : SqL K S3 l (cells.map V.int) := ex_l (D3.ex.trans wn_ex) hS
      refine q_when (b := decide (pos + 1 ≤ (cells.length : Int))) (et_test (ev_is (ev_op (ix1 (ev_var rfl) d1) (Ev.int_eq (ev_len (ix0 (ev_var rfl) d1) hS3) hlen) rv_I0) rfl)) (fun hb2 H4 e4 => ?_) (fun hb2 H4 e4 => ?_)
      · have hp : pos + 1 ≤ (cells.length : Int) := by simpa using hb2
        have d4 := e4 _ _ d1
        refine q_asg (v := .int (cells.getD pos.toNat 0)) (ev_ixL (ix0 (ev_var rfl) d4) (ex_l e4 hS3) (Ev.int_eq (i := pos + 1 - 1) (ev_op (ix1 (ev_var rfl) d4) ev_c rv_I0) (by omega)) (atI_mapI q0 (by omega))) fun H5 e5 => ?_
        generalize cells.getD pos.toNat 0 = cell
        have d5 := e5 _ _ d4
        refine q_setL (j := 3) (v := .int (if (1000000000000000000 : Int) ≤ cell then cell / count else 0)) d5 ?_ (ev_var rfl) ev_c (by show 3 < 4; decide) fun H6 e6 => ?_
        · by_cases hc : (1000000000000000000 : Int) ≤ cell
          · rw [if_pos hc]
            exact ev_if (b := true) (et_is (et_test (ev_op (ev_var rfl) (Ev.int_eq (ev_op ev_c ev_c (rv_I ⟨by decide, by decide, by decide⟩)) p10) rv_I0)) (by simpa using hc)) (fun _ => ev_op (ev_var rfl) (ev_var rfl) (rv_I (wide_div (b := 60) p0 (by omega) (by decide) (by decide)))) (fun z => nomatch z)
          · rw [if_neg hc]
            exact ev_if (b := false) (et_is (et_test (ev_op (ev_var rfl) (Ev.int_eq (ev_op ev_c ev_c (rv_I ⟨by decide, by decide, by decide⟩)) p10) rv_I0)) (by simpa using hc)) (fun z => nomatch z) (fun _ => ev_c)
        have r6 : 0 ≤ (if (1000000000000000000 : Int) ≤ cell then cell / count else 0) := by
          split
          · exact Int.ediv_nonneg (by omega) (by omega)
          · decide
        generalize (if (1000000000000000000 : Int) ≤ cell then cell / count else 0) = rest' at r6 ⊢
        have d6 : (upd H6 a (.lst (([.ref l, .int (pos + 1), .int m, .int rest] : List V).set 3 (.int rest')))) a = some (.lst [.ref l, .int (pos + 1), .int m, .int rest']) := upd_same
        have q6 : HS (upd H6 a (.lst (([.ref l, .int (pos + 1), .int m, .int rest] : List V).set 3 (.int rest')))) a l := ⟨_, _, _, d6, by omega, m0, m1, r6⟩
        refine s_ret (ev_op (ev_var rfl) (ev_var rfl) (rv_I p0)) fun H7 e7 => ?_
        exact k _ _ (Int.emod_nonneg _ (by omega)) (Int.emod_lt_of_pos _ p0) (((D3.trans (Dr.of q3 ((e4.trans e5).trans e6))).trans (Dr.upd rfl q6)).trans (Dr.of q6 e7))
      · have d4 := e4 _ _ d1
        have n0 : 0 ≤ (m * 48271 + 11) % 2147483647 := Int.emod_nonneg _ (by omega)
        have n1 : (m * 48271 + 11) % 2147483647 < 2147483647 := Int.emod_lt_of_pos _ (by omega)
        refine q_setL (j := 2) (v := .int ((m * 48271 + 11) % 2147483647)) d4 (ev_op (ev_op (ev_op (ix2 (ev_var rfl) d4) ev_c (rv_I (wide_ok (by decide)))) ev_c rv_I0) ev_c (rv_I (by show (0 : Int) < 2147483647; decide))) (ev_var rfl) ev_c (by show 2 < 4; decide) fun H6 e6 => ?_
        generalize (m * 48271 + 11) % 2147483647 = m' at n0 n1 ⊢
        have d6 : (upd H6 a (.lst (([.ref l, .int (pos + 1), .int m, .int rest] : List V).set 2 (.int m')))) a = some (.lst [.ref l, .int (pos + 1), .int m', .int rest]) := upd_same
        have q6 : HS (upd H6 a (.lst (([.ref l, .int (pos + 1), .int m, .int rest] : List V).set 2 (.int m')))) a l := ⟨_, _, _, d6, by omega, n0, n1, r0⟩
        refine s_ret (ev_op (ev_op (ix2 (ev_var rfl) d6) ev_c (rv_I (wide_div (b := 3) (by decide) (by decide) (by decide) (by decide)))) (ev_var rfl) (rv_I p0)) fun H7 e7 => ?_
        exact k _ _ (Int.emod_nonneg _ (by omega)) (Int.emod_lt_of_pos _ p0) (((D3.trans (Dr.of q3 (e4.trans e6))).trans (Dr.upd rfl q6)).trans (Dr.of q6 e7))
end Sw
namespace Sw
open PySem PySem.Spec PyProof.Rows L2 Evl
local macro_rules | `(tactic| walk_at "ev") => `(tactic| first
  | exact ev_c
  | exact ev_var rfl
  | ((with_reducible show Ev (tCB rMax2 _) _ _ _); exact ev_maxi (by walk_at "ev") (by walk_at "ev"))
  | ((with_reducible show Ev (tCB rMn _) _ _ _); exact ev_min2 (by walk_at "ev") (by walk_at "ev"))
  | ((with_reducible show Ev (tUn _ _) _ _ _); exact ev_un (by walk_at "ev") ru_neg)
  | ((with_reducible show Ev (tFld _ _ _) _ _ _); exact ev_fldK (by walk_at "ev") (by assumption))
  | ((with_reducible show Ev (tOp (rI0 _) _ _) _ _ _); exact ev_op (by walk_at "ev") (by walk_at "ev") rv_I0)
  | ((with_reducible show Ev (tOp rEq _ _) _ _ _); exact ev_op (by walk_at "ev") (by walk_at "ev") (rv_eq rfl))
  | ((with_reducible show Ev (tOp rNe _ _) _ _ _); exact ev_op (by walk_at "ev") (by walk_at "ev") (rv_ne rfl)))

/-! ### evaluating while cells are drawn -/
def EvX (te : TE) (σ : L2.St) (H : Hp) (h l : Addr) (P : V → Hp → Prop) : Prop := ∀ H1, Dr h l H H1 → ∀ Q : VK, (∀ v H2, Dr h l H1 H2 → P v (wn H2 (hl h l)) → Q v H2) → te σ H1 Q
def EvI (te : TE) (σ : L2.St) (H : Hp) (h l : Addr) (A : Int → Prop) : Prop := EvX te σ H h l fun v _ => ∃ i, v = .int i ∧ A i
def EvXT (t : TT) (σ : L2.St) (H : Hp) (h l : Addr) : Prop := ∀ H1, Dr h l H H1 → ∀ Q : Bool → Hp → Prop, (∀ b H2, Dr h l H1 H2 → Q b H2) → t σ H1 Q
/-- a list, a tuple of numbers -/
def LI (A : List Int → Prop) : V → Hp → Prop := fun v G => ∃ p ns, v = .ref p ∧ G p = some (.lst (ns.map V.int)) ∧ A ns
def TI' (A : List Int → Prop) : V → Hp → Prop := fun v G => ∃ p ns, v = .ref p ∧ G p = some (.tup (ns.map V.int)) ∧ A ns
section
variable {K : PySem.W.Frag} {σ : L2.St} {H H' : Hp} {ta tb tc te tx : TE} {x y z v : V} {a h l : Addr} {xs ys : List V} {A B C D : Int → Prop} {i j : Int}
theorem hl_kind {G : Hp} {p : Addr} {o : HO} (q : HS G h l) (hp : G p = some o) (ho : ∀ ys, o ≠ .lst ys) : ¬ hl h l p := by
  obtain ⟨_, _, _, h1, _⟩ := q
  rintro rfl
  rw [h1] at hp; exact ho _ (Option.some.inj hp).symm
theorem hl_new {G G' : Hp} {p : Addr} (q : HS G h l) (hp : G p = none) : ¬ hl h l p := fun z => q.kn p z hp
theorem x_ev (hv : Ev te σ (wn H (hl h l)) v) : EvX te σ H h l (fun u _ => u = v) := fun H1 d Q q => hv H1 (d.ex.trans wn_ex) Q fun H2 e2 => q v H2 (Dr.of d.hs e2) rfl
theorem xi_ev (hv : Ev te σ (wn H (hl h l)) (.int i)) (ha : A i) : EvI te σ H h l A := fun H1 d Q q => hv H1 (d.ex.trans wn_ex) Q fun H2 e2 => q _ H2 (Dr.of d.hs e2) ⟨i, rfl, ha⟩
theorem x_evU (hv : EvU te σ (wn H (hl h l)) xs) : EvX te σ H h l (fun u G => ∃ p, u = .ref p ∧ G p = some (.tup xs)) := fun H1 d Q q =>
  hv H1 (d.ex.trans wn_ex) Q fun p H2 hp e2 h2 => q _ H2 (Dr.of d.hs e2) ⟨p, rfl, by rw [wn_ni (hl_new (G' := H2) d.hs hp)]; exact h2⟩
theorem x_evL (hv : EvL te σ (wn H (hl h l)) xs) : EvX te σ H h l (fun u G => ∃ p, u = .ref p ∧ G p = some (.lst xs)) := fun H1 d Q q =>
  hv H1 (d.ex.trans wn_ex) Q fun p H2 hp e2 h2 => q _ H2 (Dr.of d.hs e2) ⟨p, rfl, by rw [wn_ni (hl_new (G' := H2) d.hs hp)]; exact h2⟩
theorem x_evW (hv : EvW K te σ (wn H (hl h l)) xs) : EvX te σ H h l (fun u G => ∃ p, u = .ref p ∧ SqT K G p xs) := fun H1 d Q q =>
  hv H1 (d.ex.trans wn_ex) Q fun p H2 e2 h2 => q _ H2 (Dr.of d.hs e2) ⟨p, rfl, by
    have q2 := d.hs.mono e2
    rcases h2 with (z | ⟨u, z⟩) | z
    · exact .inl (.inl (by rw [wn_ni (hl_kind q2 z (fun _ q => nomatch q))]; exact z))
    · exact .inl (.inr ⟨u, by rw [wn_ni (hl_kind q2 z (fun _ q => nomatch q))]; exact z⟩)
    · exact .inr z⟩
theorem x_evR {Pr : Addr → Hp → Prop} (hv : EvR te σ (wn H (hl h l)) (hl h l) Pr) : EvX te σ H h l (fun u G => ∃ p, u = .ref p ∧ Pr p G) := fun H1 d Q q =>
  hv H1 (d.ex.trans wn_ex) d.hs.kn Q fun p H2 _ e2 hP => q _ H2 (Dr.of d.hs e2) ⟨p, rfl, hP⟩
theorem EvX.imp {P P' : V → Hp → Prop} (hv : EvX te σ H h l P) (f : ∀ v G, P v G → P' v G) : EvX te σ H h l P' := fun H1 d Q q => hv H1 d Q fun v H2 d2 p => q v H2 d2 (f _ _ p)
theorem EvX.from {P : V → Hp → Prop} (d : Dr h l H H') (hv : EvX te σ H h l P) : EvX te σ H' h l P := fun H1 d1 Q q => hv H1 (d.trans d1) Q q
theorem EvI.imp (hv : EvI te σ H h l A) (f : ∀ i, A i → B i) : EvI te σ H h l B := fun H1 d Q q => hv H1 d Q fun v H2 d2 ⟨i, e, p⟩ => q v H2 d2 ⟨i, e, f i p⟩
theorem xi_op0 {g : Int → Int → Int} (ha : EvI ta σ H h l A) (hb : EvI tb σ H h l B) (hc : ∀ i j, A i → B j → D (g i j)) : EvI (tOp (rI0 fun i j => .int (g i j)) ta tb) σ H h l D := fun H1 d Q q =>
  ha H1 d _ fun _ H2 d2 ⟨i, e, hi⟩ => hb H2 (d.trans d2) _ fun _ H3 d3 ⟨j, e', hj⟩ => ⟨i, j, e, e', q _ H3 (d2.trans d3) ⟨_, rfl, hc i j hi hj⟩⟩
theorem xi_op {R : Int → Int → Prop} {g : Int → Int → Int} (ha : EvI ta σ H h l A) (hb : EvI tb σ H h l B) (hc : ∀ i j, A i → B j → R i j ∧ D (g i j)) : EvI (tOp (rI R fun i j => .int (g i j)) ta tb) σ H h l D := fun H1 d Q q =>
  ha H1 d _ fun _ H2 d2 ⟨i, e, hi⟩ => hb H2 (d.trans d2) _ fun _ H3 d3 ⟨j, e', hj⟩ => ⟨i, j, e, e', (hc i j hi hj).1, q _ H3 (d2.trans d3) ⟨_, rfl, (hc i j hi hj).2⟩⟩
theorem xi_drawn {E : XK} {cells : List Int} (hS : SqL K (wn H (hl h l)) l (cells.map V.int)) (ha : ∀ G, Ev ta σ G (.ref h)) (hb : EvI tb σ H h l A) (hA : ∀ i, A i → 0 < i ∧ i ≤ 1000000000000000000) : EvI (tCall (sp_drawn K) [] E (tCons ta (tCons tb tNil))) σ H h l (fun v => 0 ≤ v ∧ ∃ i, A i ∧ v < i) := fun H1 d Q q =>
  ha H1 H1 (Ex.refl _) _ fun H2 e2 => hb H2 (d.trans (Dr.of d.hs e2)) _ fun _ H3 d3 ⟨i, e, hi⟩ => by
    subst e
    exact ⟨h, l, cells, i, rfl, (hA i hi).1, (hA i hi).2, d3.hs, ex_l (((d.trans (Dr.of d.hs e2)).trans d3).ex) hS, fun v H4 v0 v1 d4 => q _ H4 (((Dr.of d.hs e2).trans d3).trans d4) ⟨v, rfl, v0, i, hi, v1⟩⟩
theorem xb_cmp {g : Int → Int → Bool} (ha : EvI ta σ H h l A) (hb : EvI tb σ H h l B) : EvX (tOp (rI0 fun i j => .bl (g i j)) ta tb) σ H h l (fun v _ => ∃ k, v = .bl k) := fun H1 d Q q =>
  ha H1 d _ fun _ H2 d2 ⟨i, e, _⟩ => hb H2 (d.trans d2) _ fun _ H3 d3 ⟨j, e', _⟩ => ⟨i, j, e, e', q _ H3 (d2.trans d3) ⟨_, rfl⟩⟩
theorem xb_eq (ha : EvI ta σ H h l A) (hb : EvI tb σ H h l B) : EvX (tOp rEq ta tb) σ H h l (fun v _ => ∃ k, v = .bl k) := fun H1 d Q q =>
  ha H1 d _ fun _ H2 d2 ⟨i, e, _⟩ => hb H2 (d.trans d2) _ fun _ H3 d3 ⟨j, e', _⟩ => by
    subst e e'
    exact ⟨rfl, q _ H3 (d2.trans d3) ⟨_, rfl⟩⟩
def rInt1 : List V → Hp → VK → Prop := fun xs H Q => (∃ i, xs = [.int i] ∧ Q (.int i) H) ∨ ∃ k, xs = [.bl k] ∧ Q (.int (if k then 1 else 0)) H
theorem xi_intb (ha : EvX ta σ H h l (fun v _ => ∃ k, v = .bl k)) : EvI (tCB rInt1 (tCons ta tNil)) σ H h l (fun i => i = 0 ∨ i = 1) := fun H1 d Q q =>
  ha H1 d _ fun _ H2 d2 ⟨k, e⟩ => .inr ⟨k, by rw [e], q _ H2 d2 ⟨_, rfl, by cases k <;> simp⟩⟩
theorem xt_test (ha : EvX ta σ H h l (fun v _ => ∃ k, v = .bl k)) : EvXT (tTest ta) σ H h l := fun H1 d Q q => ha H1 d _ fun _ H2 d2 ⟨k, e⟩ => ⟨k, e, q k H2 d2⟩
/-- [a, b][draw] -/
theorem xi_pick {n : Nat} {ns : List Int} (ha : EvL ta σ (wn H (hl h l)) (ns.map V.int)) (hb : EvI tb σ H h l B) (hn : ∀ i, B i → 0 ≤ i ∧ i < ns.length) : EvI (tOp (rIxL K) ta tb) σ H h l (fun i => i ∈ ns) := fun H1 d Q q =>
  x_evL ha H1 d _ fun _ H2 d2 ⟨p, e, hp⟩ => hb H2 (d.trans d2) _ fun _ H3 d3 ⟨j, e', hj⟩ => by
    subst e e'
    obtain ⟨j0, j1⟩ := hn j hj
    refine ⟨p, ns.map V.int, j, .int (ns.getD j.toNat 0), rfl, rfl, sq_of (wn_ex _ _ (d3.ex _ _ hp)), atI_mapI j0 j1, q _ H3 (d2.trans d3) ⟨_, rfl, ?_⟩⟩
    have hlt : j.toNat < ns.length := by omega
    have e : ns.getD j.toNat 0 = ns[j.toNat] := by simp [List.getD, hlt]
    rw [e]; exact List.getElem_mem hlt
/-- [e for i in range(n)], e drawn -/
theorem x_lcR {ta : TA} {jj : Nat} {vs : List Nat} {n : Int} (hn : EvA ta σ (wn H (hl h l)) [.int n]) (hz : 0 ≤ n ∧ n ≤ 40000) (hw : ∀ x, wipe ((wipe σ vs).set jj (some x)) vs = wipe σ vs)
    (he : ∀ (i : Nat) H1, Dr h l H H1 → (i : Int) < n → EvI te ((wipe σ vs).set jj (some (.int (i : Int)))) H1 h l A) : EvX (tLc (iRng1 ta) (gName jj) tYes te vs) σ H h l (LI fun ns => (ns.length : Int) = n ∧ ∀ x ∈ ns, A x) := fun H0 d0 Q q =>
  hn H0 (d0.ex.trans wn_ex) _ fun H1 e1 => ⟨n, rfl, by omega, by omega, fun Dl hD => by
    have d1 := Dr.of d0.hs e1
    have nD : ¬ hl h l Dl := hl_new (G' := H1) d1.hs hD
    have dn : Dr h l H1 (upd H1 Dl (.lst [])) := Dr.of d1.hs (Ex.new hD)
    refine lc_range (lo := 0) (n := n.toNat) (fun i H' => Dr h l H1 H' ∧ ∃ ns : List Int, H' Dl = some (.lst (ns.map V.int)) ∧ ns.length = i ∧ ∀ x ∈ ns, A x) ⟨dn, [], upd_same, rfl, by simp⟩ (fun i H' hi p => ?_) (fun H' p => ?_)
    · obtain ⟨d2, ns, h2, hl2, hA⟩ := p
      have e0 : (0 : Int) + (i : Int) = (i : Int) := Int.zero_add _
      show wipe ((wipe σ vs).set jj (some (.int ((0 : Int) + (i : Int))))) vs = wipe σ vs ∧ _
      refine ⟨hw _, ?_⟩
      show te ((wipe σ vs).set jj (some (.int ((0 : Int) + (i : Int))))) H' _
      rw [e0]
      refine he i H' ((d0.trans d1).trans d2) (by omega) H' (Dr.refl d2.hs) _ fun v H3 d3 hv => ?_
      obtain ⟨k, rfl, hk⟩ := hv
      have h3 : H3 Dl = some (.lst (ns.map V.int)) := wn_ex _ _ (d3.ex _ _ (by rw [wn_ni nD]; exact h2))
      have d5 : Dr h l H1 (upd H3 Dl (.lst (ns.map V.int ++ [.int k]))) := ⟨by
        obtain ⟨p0, m, r, a1, rr⟩ := d3.hs
        exact ⟨p0, m, r, by rw [upd_ne (fun z => nD z.symm)]; exact a1, rr⟩, fun b u hb => by
        obtain ⟨q1, q2⟩ := wn_some hb
        have z := wn_ex _ _ ((d2.trans d3).ex b u hb)
        rw [wn_ni q1, upd_ne (ne_of_none q2 hD)]
        exact z⟩
      refine ⟨_, h3, by rw [List.length_map]; exact sz_lt (by omega), d5, ns ++ [k], by rw [upd_same, List.map_append]; rfl, by rw [List.length_append, hl2]; rfl, fun x hx => ?_⟩
      rcases List.mem_append.mp hx with z | z
      · exact hA x z
      · rw [List.mem_singleton.mp z]; exact hk
    · obtain ⟨d2, ns, h2, hl2, hA⟩ := p
      exact q _ H' (d1.trans d2) ⟨Dl, ns, rfl, by rw [wn_ni nD]; exact h2, by omega, hA⟩⟩
/-- statements whose values are drawn -/
theorem x_ret {P : V → Hp → Prop} {D : Ends} (hs : HS H h l) (hx : EvX te σ H h l P) (k : ∀ v H2, Dr h l H H2 → P v (wn H2 (hl h l)) → D.rt v H2) : tRet te D σ H := hx H (Dr.refl hs) _ k
theorem x_asgG {P : V → Hp → Prop} {D : Ends} {tz : TS} {g : TG} (hs : HS H h l) (hx : EvX te σ H h l P) (k : ∀ v H2, Dr h l H H2 → P v (wn H2 (hl h l)) → g v σ H2 (tz D)) : tSeq (tAsg te g) tz D σ H := hx H (Dr.refl hs) _ k
theorem x_asg {P : V → Hp → Prop} {D : Ends} {tz : TS} {n : Nat} (hs : HS H h l) (hx : EvX te σ H h l P) (k : ∀ v H2, Dr h l H H2 → P v (wn H2 (hl h l)) → tz D (σ.set n (some v)) H2) : tSeq (tAsg te (gName n)) tz D σ H := hx H (Dr.refl hs) _ k
theorem x_asgI {D : Ends} {tz : TS} {n : Nat} (hs : HS H h l) (hx : EvI te σ H h l A) (k : ∀ i H2, Dr h l H H2 → A i → tz D (σ.set n (some (.int i))) H2) : tSeq (tAsg te (gName n)) tz D σ H := hx H (Dr.refl hs) _ fun _ H2 d ⟨i, e, p⟩ => by subst e; exact k i H2 d p
theorem x_par {P Q : V → Hp → Prop} {D : Ends} {tz : TS} {m n : Nat} (hs : HS H h l) (hx : EvX ta σ H h l P) (hy : EvX tb σ H h l Q) (k : ∀ v w H1 H2, Dr h l H H1 → Dr h l H1 H2 → P v (wn H1 (hl h l)) → Q w (wn H2 (hl h l)) → tz D ((σ.set m (some v)).set n (some w)) H2) : tSeq (tPar m n (tCons ta (tCons tb tNil))) tz D σ H :=
  hx H (Dr.refl hs) _ fun v H1 d1 p1 => hy H1 d1 _ fun w H2 d2 p2 => ⟨v, w, rfl, k v w H1 H2 d1 d2 p1 p2⟩
theorem x_if {D : Ends} {tt : TT} {tu tw tz : TS} (hs : HS H h l) (hx : EvXT tt σ H h l) (h1 : ∀ H2, Dr h l H H2 → tu { D with nx := tz D } σ H2) (h2 : ∀ H2, Dr h l H H2 → tw { D with nx := tz D } σ H2) : tSeq (tIfS tt tu tw) tz D σ H := hx H (Dr.refl hs) _ fun b H2 d => by
  cases b with
  | true => exact h1 H2 d
  | false => exact h2 H2 d
theorem x_ifK {M : L2.St → Hp → Prop} {D : Ends} {tt : TT} {tu tw tz : TS} (hs : HS H h l) (hx : EvXT tt σ H h l) (fin : ∀ σ' H', M σ' H' → tz D σ' H') (h1 : ∀ H2, Dr h l H H2 → (∀ σ' H', M σ' H' → tz D σ' H') → tu { D with nx := tz D } σ H2)
    (h2 : ∀ H2, Dr h l H H2 → (∀ σ' H', M σ' H' → tz D σ' H') → tw { D with nx := tz D } σ H2) : tSeq (tIfS tt tu tw) tz D σ H := x_if hs hx (fun H2 d => h1 H2 d fin) (fun H2 d => h2 H2 d fin)
/-- a call all of whose arguments are drawn: the first ones plain -/
theorem x_call3 {sp : Sp} {E : XK} {P : V → Hp → Prop} {u : V} (ha : ∀ G, Ev ta σ G u) (hb : EvI tb σ H h l A) (hc : EvI tc σ H h l B) (hp : ∀ i j H1, A i → B j → Dr h l H H1 → ∀ Q : VK, (∀ v H2, Dr h l H1 H2 → P v (wn H2 (hl h l)) → Q v H2) → sp [u, .int i, .int j] H1 Q E) :
    EvX (tCall sp [] E (tCons ta (tCons tb (tCons tc tNil)))) σ H h l P := fun H1 d Q q =>
  ha H1 H1 (Ex.refl _) _ fun H2 e2 => hb H2 (d.trans (Dr.of d.hs e2)) _ fun _ H3 d3 ⟨i, e, hi⟩ => hc H3 ((d.trans (Dr.of d.hs e2)).trans d3) _ fun _ H4 d4 ⟨j, e', hj⟩ => by
    subst e e'
    exact hp i j H4 hi hj (((d.trans (Dr.of d.hs e2)).trans d3).trans d4) Q fun v H5 d5 p => q v H5 ((((Dr.of d.hs e2)).trans d3).trans (d4.trans d5)) p
theorem x_tupL {A : List Int → Prop} (ha : EvX ta σ H h l (LI A)) : EvX (tCB (rTupS K) (tCons ta tNil)) σ H h l (TI' A) := fun H1 d Q q =>
  ha H1 d _ fun _ H2 d2 ⟨p, ns, e, hp, hA⟩ => ⟨p, ns.map V.int, by rw [e], .inl ⟨sq_of (wn_ex _ _ hp), fun t ht => by
    have d3 := Dr.of d2.hs (Ex.new (o := .tup (ns.map V.int)) ht)
    exact q _ _ (d2.trans d3) ⟨t, ns, rfl, by rw [wn_ni (hl_new (G' := H2) d2.hs ht)]; exact upd_same, hA⟩⟩⟩
theorem ew_cat (ha : EvW K ta σ H xs) (hb : EvW K tb σ H ys) (hz : xs.length + ys.length ≤ 100000) : EvW K (tOp (rCatA K) ta tb) σ H (xs ++ ys) := fun H1 e Q q =>
  ha H1 e _ fun p H2 e2 h2 => hb H2 (e.trans e2) _ fun r H3 e3 h3 => ⟨p, r, xs, ys, rfl, rfl, ex_t e3 h2, h3, sz_of hz,
    fun z => q r H3 (e2.trans e3) (by rw [z]; exact h3), fun _ z => q p H3 (e2.trans e3) (by rw [z, List.append_nil]; exact ex_t e3 h2),
    fun _ _ t ht => q t _ ((e2.trans e3).trans (Ex.new ht)) (st_of upd_same)⟩
theorem ew_drop {tl : TE} {k : Nat} (ha : EvW K te σ H xs) (hk : Ev tl σ H (.int (k : Int))) : EvW K (tSl (rSlA K) te (tPart tl) tNoPart) σ H (xs.drop k) := fun H1 e Q q =>
  ha H1 e _ fun p H2 e2 h2 => hk H2 (e.trans e2) _ fun H3 e3 => ⟨(k : Int), rfl, p, xs, rfl, ex_t e3 h2, fun w => by
      have hi : min k xs.length = 0 := by rw [← HT.sIx_nat xs.length 0 k]; exact w.1
      have t : xs.drop k = xs := by
        rcases Nat.eq_zero_or_pos k with z | z
        · rw [z]; rfl
        · have : xs.length = 0 := by omega
          rw [List.length_eq_zero_iff.mp this]; simp
      rw [t] at q
      exact q p H3 (e2.trans e3) (ex_t e3 h2), fun _ r hr => by
      refine q r _ ((e2.trans e3).trans (Ex.new hr)) (st_of ?_)
      rw [upd_same]
      unfold cutV
      rw [HT.sIx_none, HT.sIx_nat]
      congr 2
      by_cases hk : k ≤ xs.length
      · rw [Nat.min_eq_left hk, List.take_of_length_le (by simp)]
      · rw [Nat.min_eq_right (by omega)]
        simp [List.drop_eq_nil_of_le (Nat.le_of_not_le hk)]⟩
end
end Sw
namespace Sw
open PySem PySem.Spec PyProof.Rows L2 Evl
local macro_rules | `(tactic| walk_at "ev") => `(tactic| first
  | exact ev_c
  | exact ev_var rfl
  | ((with_reducible show Ev (tCB rMax2 _) _ _ _); exact ev_maxi (by walk_at "ev") (by walk_at "ev"))
  | ((with_reducible show Ev (tCB rMn _) _ _ _); exact ev_min2 (by walk_at "ev") (by walk_at "ev"))
  | ((with_reducible show Ev (tUn _ _) _ _ _); exact ev_un (by walk_at "ev") ru_neg)
  | ((with_reducible show Ev (tFld _ _ _) _ _ _); exact ev_fldK (by walk_at "ev") (by assumption))
  | ((with_reducible show Ev (tOp (rI0 _) _ _) _ _ _); exact ev_op (by walk_at "ev") (by walk_at "ev") rv_I0)
  | ((with_reducible show Ev (tOp rEq _ _) _ _ _); exact ev_op (by walk_at "ev") (by walk_at "ev") (rv_eq rfl))
  | ((with_reducible show Ev (tOp rNe _ _) _ _ _); exact ev_op (by walk_at "ev") (by walk_at "ev") (rv_ne rfl)))

/-! ### prices: which are wrong -/
def okc (c : Int) : Bool := decide (0 ≤ c) && decide (c ≤ 1000000)
def pf : Nat → Str
  | 0 => "sale"
  | 1 => "cost"
  | _ => "waste"
/-- the part of the first wrong one -/
def flt (ns : List Int) : Option Str := if okc (ns.getD 0 0) = false then some (pf 0) else if okc (ns.getD 1 0) = false then some (pf 1) else if okc (ns.getD 2 0) = false then some (pf 2) else none
theorem pf_len (k : Nat) : (pf k).length ≤ 1000 := by
  match k with
  | 0 => decide +kernel
  | 1 => decide +kernel
  | (n + 2) => show (Str.ofString "waste").length ≤ 1000; decide +kernel
/-! ### tuples of three into names -/
section
variable {K : PySem.W.Frag} {σ : L2.St} {H : Hp} {te : TE} {a : Addr} {x y z : V}
theorem q_un3 {i j k : Nat} {D : Ends} {tz : TS} (h : Ev te σ H (.ref a)) (hx : SqT K H a [x, y, z]) (c : ∀ H1, Ex H H1 → tz D (((σ.set i (some x)).set j (some y)).set k (some z)) H1) :
    tSeq (tAsg te (gTup K 3 (gCons (gName i) (gCons (gName j) (gCons (gName k) gNil))))) tz D σ H := h H (Ex.refl H) _ fun H1 e1 => ⟨a, [x, y, z], rfl, ex_t e1 hx, rfl, _, _, rfl, _, _, rfl, _, _, rfl, rfl, c H1 e1⟩
end
variable {P : Program} {w : World} {K : PySem.W.Frag} {mg : Str → Option Value} {base : Heap} {Z : Ad}
/-! ### check_price -/
def sp_cp : Sp := fun vs H Q _ => ∃ (s : Str) (c : Int), vs = [.str s, .int c] ∧ okc c = true ∧ RetV .non H Q
theorem spv_cp {H : Hp} {s : Str} {c : Int} (h : okc c = true) : SpV sp_cp [.str s, .int c] H .non := fun _ _ _ q _ => ⟨s, c, rfl, h, q⟩
theorem okc_b (c : Int) : (decide (c < 0) || decide (1000000 < c)) = !okc c := by
  unfold okc
  by_cases h1 : c < 0 <;> by_cases h2 : 1000000 < c <;> simp [h1, h2] <;> omega
theorem ok_check_price (T : Txt K mg Z) : FnOk P w K mg base CX0 1 Z.f_check_price Z.d_check_price p_check_price sp_cp := by
  refine T.F_check_price.ok sc_check_price (fun vs H Q E h => ?_) (fun cdv Ar outer s H vs Q E hr h => ?_)
  · obtain ⟨s, c, rfl, _⟩ := h
    rfl
  · obtain ⟨s, c, rfl, h1, k⟩ := h
    refine ⟨_, (pss_one (ps_if (PW.pt (pw_or (pt_cmpR op_lt (pv 1) pe_int (nomark _)) (pw_or1 (pt_cmpR op_gt (pv 1) (pe_glob (v := .int 1000000) (by rfl) T.g_MOST_CENTS ⟨_, rfl⟩) (nomark _))))) (pss_one ps_no) pss_nil)), ?_⟩
    exact s_when (b := false) (et_is (et_or (et_test (by walk_at "ev")) fun _ => et_test (by walk_at "ev")) (by rw [okc_b, h1]; rfl)) (fun hb => nomatch hb) fun _ H1 e1 => k H1 e1
/-! ### the prices -/
structure PriAt (K : PySem.W.Frag) (Z : Ad) (H : Hp) (p : Addr) (ns : List Int) : Prop where
  f : ∃ t, FlK K H p Z.c_Prices "_cents" (.ref t) ∧ SqT K H t (ns.map V.int)
  l : ns.length = 3
theorem PriAt.mono {H H' : Hp} {p : Addr} {ns : List Int} (e : Ex H H') (h : PriAt K Z H p ns) : PriAt K Z H' p ns := ⟨let ⟨t, a, b⟩ := h.f; ⟨t, a.mono e, ex_t e b⟩, h.l⟩
theorem PriAt.inst {H : Hp} {p : Addr} {ns : List Int} (h : PriAt K Z H p ns) : ∃ dx fs, H p = some (.ins Z.c_Prices dx fs) := let ⟨_, a, _⟩ := h.f; let ⟨dx, fs, x, _⟩ := a.fl; ⟨dx, fs, x⟩
theorem three {ns : List Int} (h : ns.length = 3) : ns = [ns.getD 0 0, ns.getD 1 0, ns.getD 2 0] := by
  match ns, h with
  | [a, b, c], _ => rfl
def sp_Pinit (K : PySem.W.Frag) (Z : Ad) : Sp := fun vs H Q _ => ∃ (x dx : Addr) (a b c : Int), vs = [.ref x, .int a, .int b, .int c] ∧ H x = some (.ins Z.c_Prices dx []) ∧ flt [a, b, c] = none ∧
  ∀ H', PriAt K Z H' x [a, b, c] → (∀ b o, H b = some o → b ≠ x → H' b = some o) → Q .non H'
theorem flt_none {a b c : Int} (h : flt [a, b, c] = none) : okc a = true ∧ okc b = true ∧ okc c = true := by
  unfold flt at h
  simp only [List.getD_cons_zero, List.getD_cons_succ] at h
  split at h
  · cases h
  split at h
  · cases h
  split at h
  · cases h
  rename_i h1 h2 h3
  exact ⟨by simpa using h1, by simpa using h2, by simpa using h3⟩
theorem ok_Prices___init__ (T : Txt K mg Z) : FnOk P w K mg base CX0 2 Z.f_Prices___init__ Z.d_Prices___init__ p_Prices___init__ (sp_Pinit K Z) := by
  refine T.F_Prices___init__.ok sc_Prices___init__ (fun vs H Q E h => ?_) (fun cdv Ar outer s H vs Q E hr h => ?_)
  · obtain ⟨x, dx, a, b, c, rfl, _⟩ := h
    rfl
  · obtain ⟨x, dx, a, b, c, rfl, hx, hf, k⟩ := h
    obtain ⟨f1, f2, f3⟩ := flt_none hf
    have cl := T.cl_Prices
    refine ⟨_, (pss_cons (ps_expr (pe_call (ok_check_price T) (hr.mono (by decide)) (by rfl) T.g_check_price T.F_check_price.kp T.b_check_price .nil pass0 (pa_cons pe_str (pa_cons (pv 1) pa_nil))))
      (pss_cons (ps_expr (pe_call (ok_check_price T) (hr.mono (by decide)) (by rfl) T.g_check_price T.F_check_price.kp T.b_check_price .nil pass0 (pa_cons pe_str (pa_cons (pv 2) pa_nil))))
      (pss_cons (ps_expr (pe_call (ok_check_price T) (hr.mono (by decide)) (by rfl) T.g_check_price T.F_check_price.kp T.b_check_price .nil pass0 (pa_cons pe_str (pa_cons (pv 3) pa_nil))))
      (pss_one (ps_fld (pv 0) (pe_tup (pa_cons (pv 1) (pa_cons (pv 2) (pa_cons (pv 3) pa_nil)))) rfl))))), ?_⟩
    refine q_drop (ev_call (ea_cons ev_c (ea_cons (ev_var rfl) ea_nil)) (spv_cp f1)) fun H1 e1 => ?_
    refine q_drop (ev_call (ea_cons ev_c (ea_cons (ev_var rfl) ea_nil)) (spv_cp f2)) fun H2 e2 => ?_
    refine q_drop (ev_call (ea_cons ev_c (ea_cons (ev_var rfl) ea_nil)) (spv_cp f3)) fun H3 e3 => ?_
    have e13 := (e1.trans e2).trans e3
    refine s_fldU (xs := [.int a, .int b, .int c]) (eu_tup (ea_cons (ev_var rfl) (ea_cons (ev_var rfl) (ea_cons (ev_var rfl) ea_nil))) (by show 3 ≤ 100000; decide)) (fun _ _ => ev_var rfl) (e13 _ _ hx) cl T.na_Prices__cents (by decide) fun p H4 hp e4 h4 => ?_
    have npx : p ≠ x := fun z => by rw [z, e13 _ _ hx] at hp; cases hp
    refine k _ ⟨⟨p, flk_of upd_same cl T.na_Prices__cents rfl, st_of ((upd_ne npx).trans h4)⟩, rfl⟩ fun b o hb hne => (upd_ne hne).trans (e4 _ _ (e13 _ _ hb))
/-- Prices(..) of good numbers, of wrong ones -/
theorem r_pri {σ : L2.St} {H : Hp} {t : TA} {a b c : Int} {E : XK} {Q : VK} {sp : Sp} (hsp : ∀ vs H Q E, sp_Pinit K Z vs H Q E → sp vs H Q E) (ht : EvA t σ H [.int a, .int b, .int c]) (hf : flt [a, b, c] = none) (k : ∀ p H2, H p = none → Ex H H2 → PriAt K Z H2 p [a, b, c] → Q (.ref p) H2) :
    tMake Z.c_Prices sp [] E t σ H Q := ht H (Ex.refl H) _ fun H1 e1 x dx hx hdx hne => by
  have eN : Ex H1 (upd (upd H1 dx (.own x)) x (.ins Z.c_Prices dx [])) := fun b o hbo => by
    rw [upd_ne (ne_of_none hbo hx), upd_ne (ne_of_none hbo hdx)]; exact hbo
  exact hsp _ _ _ _ ⟨x, dx, a, b, c, rfl, upd_same, hf, fun H2 hP hk => ⟨rfl, k x H2 (fresh_back e1 hx) (e1.trans fun b o hbo => hk b o (eN b o hbo) (ne_of_none hbo hx)) hP⟩⟩
def sp_cents (K : PySem.W.Frag) (Z : Ad) : Sp := fun vs H Q _ => ∃ (p : Addr) (ns : List Int), vs = [.ref p] ∧ PriAt K Z H p ns ∧ ∀ t H', Ex H H' → SqT K H' t (ns.map V.int) → Q (.ref t) H'
theorem ok_Prices_cents (T : Txt K mg Z) : FnOk P w K mg base CX0 1 Z.f_Prices_cents Z.d_Prices_cents p_Prices_cents (sp_cents K Z) := by
  refine T.F_Prices_cents.ok sc_Prices_cents (fun vs H Q E h => ?_) (fun cdv Ar outer s H vs Q E hr h => ?_)
  · obtain ⟨p, ns, rfl, _⟩ := h
    rfl
  · obtain ⟨p, ns, rfl, hp, k⟩ := h
    obtain ⟨t, hf, ht⟩ := hp.f
    refine ⟨_, (pss_one (ps_ret (pe_fldK K rfl (pv 0) rfl))), ?_⟩
    exact s_ret (ev_fldK (ev_var rfl) hf) fun H1 e1 => k t H1 e1 (ex_t e1 ht)
def gain (ns : List Int) (b s t : Int) : Int := s * ns.getD 0 0 - b * ns.getD 1 0 - t * ns.getD 2 0
def sp_Pcall (K : PySem.W.Frag) (Z : Ad) : Sp := fun vs H Q _ => ∃ (p : Addr) (ns : List Int) (b s t : Int), vs = [.ref p, .int b, .int s, .int t] ∧ PriAt K Z H p ns ∧ (∀ k, 0 ≤ ns.getD k 0 ∧ ns.getD k 0 ≤ 1000000) ∧ RetV (.int (gain ns b s t)) H Q
theorem ok_Prices___call__ (T : Txt K mg Z) : FnOk P w K mg base CX0 1 Z.f_Prices___call__ Z.d_Prices___call__ p_Prices___call__ (sp_Pcall K Z) := by
  refine T.F_Prices___call__.ok sc_Prices___call__ (fun vs H Q E h => ?_) (fun cdv Ar outer s H vs Q E hr h => ?_)
  · obtain ⟨p, ns, b, s, t, rfl, _⟩ := h
    rfl
  · obtain ⟨p, ns, b, s, t, rfl, hp, hn, k⟩ := h
    obtain ⟨tt, hf, ht⟩ := hp.f
    have e3 := three hp.l
    have n0 := hn 0
    have n1 := hn 1
    have n2 := hn 2
    rw [e3] at ht
    refine ⟨_, (pss_cons (ps_asg (pe_fldK K rfl (pv 0) rfl) (by exact (pg_tupK K (n := 3) rfl rfl (pgs_cons (pg_name (i := 4) sc_Prices___call__.nd rfl (Or.inl rfl)) (pgs_cons (pg_name (i := 5) sc_Prices___call__.nd rfl (Or.inl rfl)) (pgs_cons (pg_name (i := 6) sc_Prices___call__.nd rfl (Or.inl rfl)) pgs_nil))))))
      (pss_one (ps_ret (pe_op op_sub (pe_op op_sub (pe_op op_mul (pv 2) (pv 4)) (pe_op op_mul (pv 1) (pv 5))) (pe_op op_mul (pv 3) (pv 6)))))), ?_⟩
    refine q_un3 (ev_fldK (ev_var rfl) hf) ht fun H1 e1 => ?_
    exact s_ret (ev_op (ev_op (ev_op (ev_var rfl) (ev_var rfl) (rv_I (wide_ok (by omega)))) (ev_op (ev_var rfl) (ev_var rfl) (rv_I (wide_ok (by omega)))) rv_I0) (ev_op (ev_var rfl) (ev_var rfl) (rv_I (wide_ok (by omega)))) rv_I0) fun H2 e2 => k H2 (e1.trans e2)
section
variable {K : PySem.W.Frag} {Z : Ad} {X : Cx} {σ : L2.St} {H : Hp} {ta : TE} {t : TA} {p : Addr} {as : List Int} {E : XK}
theorem ev_pcall {b s u : Int} (h : Ev ta σ H (.ref p)) (hp : PriAt K Z H p as) (ht : EvA t σ H [.int b, .int s, .int u]) (hn : ∀ k, 0 ≤ as.getD k 0 ∧ as.getD k 0 ≤ 1000000) : Ev (StX.tCallO X Z.c_Prices (sp_Pcall K Z) E ta t) σ H (.int (gain as b s u)) := fun H1 e Q k =>
  h H1 e _ fun H2 e2 => ⟨p, rfl, ht H2 (e.trans e2) _ fun H3 e3 => ⟨.inr (hp.mono ((e.trans e2).trans e3)).inst, p, as, b, s, u, rfl, hp.mono ((e.trans e2).trans e3), hn, fun H4 e4 => k H4 ((e2.trans e3).trans e4)⟩⟩
end
end Sw
namespace Sw
open PySem PySem.Spec PyProof.Rows L2 Evl LamX NdefX
local macro_rules | `(tactic| walk_at "ev") => `(tactic| first
  | exact ev_c
  | exact ev_var rfl
  | ((with_reducible show Ev (tCB rMax2 _) _ _ _); exact ev_maxi (by walk_at "ev") (by walk_at "ev"))
  | ((with_reducible show Ev (tCB rMn _) _ _ _); exact ev_min2 (by walk_at "ev") (by walk_at "ev"))
  | ((with_reducible show Ev (tUn _ _) _ _ _); exact ev_un (by walk_at "ev") ru_neg)
  | ((with_reducible show Ev (tFld _ _ _) _ _ _); exact ev_fldK (by walk_at "ev") (by assumption))
  | ((with_reducible show Ev (tOp (rI0 _) _ _) _ _ _); exact ev_op (by walk_at "ev") (by walk_at "ev") rv_I0)
  | ((with_reducible show Ev (tOp rEq _ _) _ _ _); exact ev_op (by walk_at "ev") (by walk_at "ev") (rv_eq rfl))
  | ((with_reducible show Ev (tOp rNe _ _) _ _ _); exact ev_op (by walk_at "ev") (by walk_at "ev") (rv_ne rfl)))

theorem spv_or {sp sp' : Sp} {vs : List V} {H : Hp} {z : V} (h : SpV sp vs H z) : SpV (spOr sp sp') vs H z := fun H1 e Q q E => .inl (h H1 e Q q E)
theorem q_rz {σ : L2.St} {H : Hp} {t : TA} {vs : List V} {sp : Sp} {E : XK} {Q : VK} (ha : EvA t σ H vs) (h : ∀ H1, Ex H H1 → ∀ Q, sp vs H1 Q E) : tCall sp [] E t σ H Q := ha H (Ex.refl H) _ fun H1 e1 => by
  show sp (vs ++ []) H1 Q E
  rw [List.append_nil]; exact h H1 e1 Q
variable {P : Program} {w : World} {K : PySem.W.Frag} {mg : Str → Option Value} {base : Heap} {Z : Ad}
def sp_Bbakes (K : PySem.W.Frag) (Z : Ad) : Sp := fun vs H Q _ => ∃ (b : Addr) (bs ds : List Int) (life : Int) (i : Nat), vs = [.ref b] ∧ BakAt K Z H b bs ds life i ∧ ∀ p H', Ex H H' → SqT K H' p (bs.map V.int) → Q (.ref p) H'
theorem ok_Bakery_bakes (T : Txt K mg Z) : FnOk P w K mg base CX0 1 Z.f_Bakery_bakes Z.d_Bakery_bakes p_Bakery_bakes (sp_Bbakes K Z) := by
  refine T.F_Bakery_bakes.ok sc_Bakery_bakes (fun vs H Q E h => ?_) (fun cdv Ar outer s H vs Q E hr h => ?_)
  · obtain ⟨b, bs, ds, life, i, rfl, _⟩ := h
    rfl
  · obtain ⟨b, bs, ds, life, i, rfl, hB, k⟩ := h
    obtain ⟨tl, fl, hl⟩ := hB.fb
    refine ⟨_, (pss_one (ps_ret (pe_fldK K rfl (pv 0) rfl))), ?_⟩
    exact s_ret (by walk_at "ev") fun H1 e1 => k tl H1 e1 (ex_t e1 hl)
/-! ### a number out of its range -/
def sp_numX (Z : Ad) : Sp := fun vs H _ E => ∃ n lo hi : Int, vs = [.int n, .int lo, .int hi] ∧ (n < lo ∨ hi < n) ∧ n.natAbs < 10 ^ 30 ∧ lo.natAbs < 10 ^ 30 ∧ hi.natAbs < 10 ^ 30 ∧ ∀ H', Ex H H' → E (.ref Z.c_InvalidNumber) none H'
theorem log_sm {i : Int} (h : i.natAbs < 10 ^ 30) : i.natAbs.log2 < 1920 := by
  rcases Nat.eq_zero_or_pos i.natAbs with q | q
  · rw [q]; decide
  · exact (Nat.log2_lt (by omega)).mpr (Nat.lt_of_lt_of_le h (by decide))
theorem len_sm {i : Int} (h : i.natAbs < 10 ^ 30) : (Str.ofString (toString i)).length ≤ 31 := by
  rw [PySem.ofString_length]
  exact int_text_length_le10 (k := 30) (by decide) h
theorem okX_check_number (T : Txt K mg Z) (hP : P = Z.P) : FnOk P w K mg base (L2.CX P w) 1 Z.f_check_number Z.d_check_number p_check_number (sp_numX Z) := by
  refine T.F_check_number.okX sc_check_number (fun vs H Q E h => ?_) (fun cdv Ar outer s H vs Q E hr h => ?_)
  · obtain ⟨n, lo, hi, rfl, _⟩ := h
    rfl
  · obtain ⟨n, lo, hi, rfl, hb, h1, h2, h3, k⟩ := h
    refine ⟨_, (pss_one (ps_if (PW.pt (pw_or (pt_cmpR op_lt (pv 0) (pv 1) (nomark _)) (pw_or1 (pt_cmpR op_gt (pv 0) (pv 2) (nomark _))))) (pss_one (ps_raise rfl (takes_of rfl rfl rfl rfl) (pmk_ownA PySem.F.excBase_ValueError T.xp_InvalidNumber T.g_InvalidNumber T.xq_InvalidNumber (raises_own T.xb_InvalidNumber T.xy_InvalidNumber) (by rfl) (pa_cons (pe_joined (.cons (pe_fmt (pv 0)) (.cons pe_str (.cons (pe_fmt (pv 1)) (.cons pe_str (.cons (pe_fmt (pv 2)) .nil)))))) pa_nil)))) pss_nil)), ?_⟩
    refine s_when (b := true) (et_is (et_or (et_test (by walk_at "ev")) fun _ => et_test (by walk_at "ev")) (by simp; omega)) (fun _ H1 e1 => ?_) fun hb => nomatch hb
    have hz := sizeLine_eq
    have a1 := len_sm h1
    have a2 := len_sm h2
    have a3 := len_sm h3
    have l0 : Str.empty.length = 0 := rfl
    have l1 : (Str.ofString " is not from ").length = 13 := by decide +kernel
    have l2 : (Str.ofString " to ").length = 4 := by decide +kernel
    refine ⟨_, rfl, .inr ⟨n, rfl, log_sm h1, _, rfl, ?_, _, rfl, ?_, _, rfl, .inr ⟨lo, rfl, log_sm h2, _, rfl, ?_, _, rfl, ?_, _, rfl, .inr ⟨hi, rfl, log_sm h3, _, rfl, ?_, by show 1 ≤ sizeLine; omega, k H1 e1⟩⟩⟩⟩
    · rw [Str.length_append]; omega
    · simp only [Str.length_append]; omega
    · simp only [Str.length_append]; omega
    · simp only [Str.length_append]; omega
    · simp only [Str.length_append]; omega
theorem okM_check_number (T : Txt K mg Z) (hP : P = Z.P) : FnOk P w K mg base (L2.CX P w) 1 Z.f_check_number Z.d_check_number p_check_number (spOr sp_num (sp_numX Z)) := fn_or (fn_lift (ok_check_number T)) (okX_check_number T hP)
def sp_totX (K : PySem.W.Frag) (Z : Ad) : Sp := fun vs H _ E => ∃ (b : Addr) (n : Int), vs = [.ref b, .int n] ∧ (n < 0 ∨ 1000000000000000000 < n) ∧ n.natAbs < 10 ^ 30 ∧ ∀ H', Ex H H' → E (.ref Z.c_InvalidNumber) none H'
theorem okX_Bakery_totals (T : Txt K mg Z) (hP : P = Z.P) : FnOk P w K mg base (L2.CX P w) 5 Z.f_Bakery_totals Z.d_Bakery_totals p_Bakery_totals (sp_totX K Z) := by
  refine T.F_Bakery_totals.okX sc_Bakery_totals (fun vs H Q E h => ?_) (fun cdv Ar outer s H vs Q E hr h => ?_)
  · obtain ⟨b, n, rfl, _⟩ := h
    rfl
  · obtain ⟨b, n, rfl, hn, hz, k⟩ := h
    refine ⟨_, (pss_cons (ps_expr (pe_call (okM_check_number T hP) (hr.mono (by decide)) (by rfl) T.g_check_number T.F_check_number.kp T.b_check_number .nil (passes_call (takes_of rfl rfl rfl rfl) (fun _ _ _ _ h => h)) (pa_cons (pv 1) (pa_cons pe_int (pa_cons (pe_glob (v := .int 1000000000000000000) (by rfl) T.g_LAST_DAY ⟨_, rfl⟩) pa_nil)))))
      (pss_one (ps_ret (pe_meth (pe_fldK K rfl (pv 0) rfl) T.cl_Course T.m_Course_sales_before (ok_Course_sales_before T) (hr.mono (by decide)) T.b_Course_sales_before .nil pass0 (pa_cons (pv 1) pa_nil))))), ?_⟩
    exact q_rz (ea_cons (ev_var rfl) (ea_cons ev_c (ea_cons ev_c ea_nil))) fun H1 e1 Q => .inr ⟨n, 0, 1000000000000000000, rfl, hn, hz, by decide, by decide, fun H2 e2 => k H2 (e1.trans e2)⟩
theorem okM_Bakery_totals (T : Txt K mg Z) (hP : P = Z.P) : FnOk P w K mg base (L2.CX P w) 5 Z.f_Bakery_totals Z.d_Bakery_totals p_Bakery_totals (spOr (sp_Btot K Z) (sp_totX K Z)) := fn_or (fn_lift (ok_Bakery_totals T)) (okX_Bakery_totals T hP)
end Sw
namespace Sw
open PySem PySem.Spec PyProof.Rows L2 Evl
local macro_rules | `(tactic| walk_at "ev") => `(tactic| first
  | exact ev_c
  | exact ev_var rfl
  | ((with_reducible show Ev (tCB rMax2 _) _ _ _); exact ev_maxi (by walk_at "ev") (by walk_at "ev"))
  | ((with_reducible show Ev (tCB rMn _) _ _ _); exact ev_min2 (by walk_at "ev") (by walk_at "ev"))
  | ((with_reducible show Ev (tUn _ _) _ _ _); exact ev_un (by walk_at "ev") ru_neg)
  | ((with_reducible show Ev (tFld _ _ _) _ _ _); exact ev_fldK (by walk_at "ev") (by assumption))
  | ((with_reducible show Ev (tOp (rI0 _) _ _) _ _ _); exact ev_op (by walk_at "ev") (by walk_at "ev") rv_I0)
  | ((with_reducible show Ev (tOp rEq _ _) _ _ _); exact ev_op (by walk_at "ev") (by walk_at "ev") (rv_eq rfl))
  | ((with_reducible show Ev (tOp rNe _ _) _ _ _); exact ev_op (by walk_at "ev") (by walk_at "ev") (rv_ne rfl)))

/-! ### round_profit, best_more -/
def prf0 (ps bs ds : List Int) (life : Int) : Int := gain ps bs.sum (ds.sum - (lmOf bs ds (keepL bs life)).sum) (bs.sum - (ds.sum - (lmOf bs ds (keepL bs life)).sum))
section
variable {K : PySem.W.Frag} {Z : Ad} {X : Cx} {σ : L2.St} {H H' : Hp} {ta tb te : TE} {x y z v : V} {b p : Addr} {ns bs ds ps : List Int} {life m : Int} {i : Nat} {E : XK}
theorem ew_lng (h : Ev ta σ H (.ref b)) (hB : BakAt K Z H b bs ds life i) : EvW K (tProp Z.c_Bakery (sp_Blong K Z) [] E ta) σ H ((longI bs ds (lmOf bs ds (keepL bs life))).map V.int) := fun H1 e Q q =>
  h H1 e _ fun H2 e2 => let ⟨dx, fs, h1⟩ := hB.inst; ⟨b, dx, fs, rfl, e2 _ _ (e _ _ h1), b, bs, ds, life, i, rfl, hB.mono (e.trans e2), fun p H3 e3 h3 => q p H3 (e2.trans e3) h3⟩
theorem ew_bks (h : Ev ta σ H (.ref b)) (hB : BakAt K Z H b bs ds life i) : EvW K (tProp Z.c_Bakery (sp_Bbakes K Z) [] E ta) σ H (bs.map V.int) := fun H1 e Q q =>
  h H1 e _ fun H2 e2 => let ⟨dx, fs, h1⟩ := hB.inst; ⟨b, dx, fs, rfl, e2 _ _ (e _ _ h1), b, bs, ds, life, i, rfl, hB.mono (e.trans e2), fun p H3 e3 h3 => q p H3 (e2.trans e3) h3⟩
theorem ev_sumW1 (h : EvW K ta σ H (ns.map V.int)) : Ev (tCB (rSumT K) (tCons ta tNil)) σ H (.int ns.sum) := fun H1 e Q q => h H1 e _ fun p H2 e2 h2 => ⟨p, ns, rfl, h2, q H2 e2⟩
theorem ev_maxW0 {top : Int} (h : EvW K ta σ H (ns.map V.int)) (h0 : top ∈ ns) (h1 : ∀ y ∈ ns, y ≤ top) : Ev (tCB (rMaxT K) (tCons ta tNil)) σ H (.int top) := fun H1 e Q q =>
  h H1 e _ fun p H2 e2 h2 => ⟨p, ns, rfl, h2, List.length_pos_of_mem h0, fun m hm hle => by
    have e : m = top := Int.le_antisymm (h1 m hm) (hle top h0)
    rw [e]; exact q H2 e2⟩
theorem q_un3W {i1 i2 i3 : Nat} {D : Ends} {tz : TS} (h : EvW K te σ H [x, y, z]) (c : ∀ H1, Ex H H1 → tz D (((σ.set i1 (some x)).set i2 (some y)).set i3 (some z)) H1) :
    tSeq (tAsg te (gTup K 3 (gCons (gName i1) (gCons (gName i2) (gCons (gName i3) gNil))))) tz D σ H := h H (Ex.refl H) _ fun a H1 e1 hx => ⟨a, [x, y, z], rfl, hx, rfl, _, _, rfl, _, _, rfl, _, _, rfl, rfl, c H1 e1⟩
theorem exists_top0 : ∀ {xs : List Int}, 0 < xs.length → ∃ t, t ∈ xs ∧ ∀ y ∈ xs, y ≤ t
  | [], h => absurd h (by decide)
  | [x], _ => ⟨x, by simp, by simp⟩
  | x :: y :: r, _ => by
    obtain ⟨t, ht, hm⟩ := exists_top0 (xs := y :: r) (by simp)
    rcases Int.le_total x t with z | z
    · exact ⟨t, List.mem_cons_of_mem _ ht, fun u hu => by rcases List.mem_cons.mp hu with e | e; omega; exact hm u e⟩
    · exact ⟨x, List.mem_cons_self, fun u hu => by rcases List.mem_cons.mp hu with e | e; omega; have := hm u e; omega⟩
theorem good_any (gd : Good bs ds) {m bot top : Int} (hb : ∀ x ∈ bs, bot ≤ x) (ht : ∀ x ∈ bs, x ≤ top) (h0 : -bot ≤ m) (h1 : m ≤ 1000000000 - top) : Good (bs.map (· + m)) ds :=
  ⟨by rw [List.length_map]; exact gd.n0, by rw [List.length_map]; exact gd.n1, by rw [List.length_map]; exact gd.ld, fun x hx => by
    obtain ⟨y, hy, rfl⟩ := List.mem_map.mp hx
    have := hb y hy
    have := ht y hy
    omega, gd.d0⟩
end
/-- where a function is greatest, the first place -/
def BestP (f : Int → Int) (lo hi m : Int) : Prop := lo ≤ m ∧ m ≤ hi ∧ (∀ a, lo ≤ a → a < m → f a < f m) ∧ ∀ a, m ≤ a → a ≤ hi → f a ≤ f m
variable {P : Program} {w : World} {K : PySem.W.Frag} {mg : Str → Option Value} {base : Heap} {Z : Ad}
def sp_round (K : PySem.W.Frag) (Z : Ad) : Sp := fun vs H Q _ => ∃ (b p : Addr) (bs ds ps : List Int) (life : Int) (i : Nat), vs = [.ref b, .ref p] ∧ BakAt K Z H b bs ds life i ∧ PriAt K Z H p ps ∧ (∀ k, 0 ≤ ps.getD k 0 ∧ ps.getD k 0 ≤ 1000000) ∧ RetV (.int (prf0 ps bs ds life)) H Q
theorem ok_round_profit (T : Txt K mg Z) : FnOk P w K mg base CX0 3 Z.f_round_profit Z.d_round_profit p_round_profit (sp_round K Z) := by
  refine T.F_round_profit.ok sc_round_profit (fun vs H Q E h => ?_) (fun cdv Ar outer s H vs Q E hr h => ?_)
  · obtain ⟨b, p, bs, ds, ps, life, i, rfl, _⟩ := h
    rfl
  · obtain ⟨b, p, bs, ds, ps, life, i, rfl, hB, hP, hn, k⟩ := h
    refine ⟨_, (pss_cons (ps_asg (pe_prop (pv 0) T.cl_Bakery T.pp_Bakery_long_run (ok_Bakery_long_run T) (hr.mono (by decide)) T.b_Bakery_long_run .nil pass0 rfl) (by exact (pg_tupK K (n := 3) rfl rfl (pgs_cons (pg_name (i := 2) sc_round_profit.nd rfl (Or.inl rfl)) (pgs_cons (pg_name (i := 3) sc_round_profit.nd rfl (Or.inl rfl)) (pgs_cons (pg_name (i := 4) sc_round_profit.nd rfl (Or.inl rfl)) pgs_nil))))))
      (pss_one (ps_ret (StX.pe_callO (pv 1) T.co_Prices (fnR_of (ok_Prices___call__ T) T.b_Prices___call__) (hr.mono (by decide)) pass0 (pa_cons (pe_callB (r := rSumT K) (cr_sumT rfl) (by rfl) T.b_sum boot_sum (pa_cons (pe_prop (pv 0) T.cl_Bakery T.pp_Bakery_bakes (ok_Bakery_bakes T) (hr.mono (by decide)) T.b_Bakery_bakes .nil pass0 rfl) pa_nil)) (pa_cons (pv 2) (pa_cons (pv 4) pa_nil))))))), ?_⟩
    refine q_un3W (x := .int _) (y := .int _) (z := .int _) (ew_lng (ev_var rfl) hB) fun H1 e1 => ?_
    exact s_ret (ev_pcall (ev_var rfl) (hP.mono e1) (ea_cons (ev_sumW1 (ew_bks (ev_var rfl) (hB.mono e1))) (ea_cons (ev_var rfl) (ea_cons (ev_var rfl) ea_nil))) hn) fun H2 e2 => k H2 (e1.trans e2)
end Sw
namespace Sw
open PySem PySem.Spec PyProof.Rows L2 Evl LamX NdefX
local macro_rules | `(tactic| walk_at "ev") => `(tactic| first
  | exact ev_c
  | exact ev_var rfl
  | ((with_reducible show Ev (tCB rMax2 _) _ _ _); exact ev_maxi (by walk_at "ev") (by walk_at "ev"))
  | ((with_reducible show Ev (tCB rMn _) _ _ _); exact ev_min2 (by walk_at "ev") (by walk_at "ev"))
  | ((with_reducible show Ev (tUn _ _) _ _ _); exact ev_un (by walk_at "ev") ru_neg)
  | ((with_reducible show Ev (tFld _ _ _) _ _ _); exact ev_fldK (by walk_at "ev") (by assumption))
  | ((with_reducible show Ev (tOp (rI0 _) _ _) _ _ _); exact ev_op (by walk_at "ev") (by walk_at "ev") rv_I0)
  | ((with_reducible show Ev (tOp rEq _ _) _ _ _); exact ev_op (by walk_at "ev") (by walk_at "ev") (rv_eq rfl))
  | ((with_reducible show Ev (tOp rNe _ _) _ _ _); exact ev_op (by walk_at "ev") (by walk_at "ev") (rv_ne rfl)))

/-! ### profit, first_profit -/
def prT (ps bs ds : List Int) (life : Int) (t : Nat) : Int := gain ps (psum (bk bs) t) (psum (solS bs ds (keepL bs life)) t) (psum (thrS bs ds (keepL bs life)) t)
def FirstV (f : Nat → Int) (goal : Int) (v : V) : Prop := (∃ d : Nat, d ≤ 1000 ∧ v = .int (d : Int) ∧ goal ≤ f d ∧ ∀ j, j < d → f j < goal) ∨ (v = .non ∧ ∀ j, j ≤ 1000 → f j < goal)
theorem q_rzM {σ : L2.St} {H : Hp} {ta tb : TE} {C b : Addr} {n : Str} {dx : Addr} {fs : List (Str × V)} {v : V} {sp : Sp} {E : XK} {g : TG} {tz : TS} {D : Ends} (ha : Ev ta σ H (.ref b)) (h1 : H b = some (.ins C dx fs)) (h2 : fs.lookup n = none) (hb : Ev tb σ H v) (h : ∀ H1, Ex H H1 → ∀ Q, sp [.ref b, v] H1 Q E) : tSeq (tAsg (tMeth C n sp [] E ta (tCons tb tNil)) g) tz D σ H :=
  ha H (Ex.refl H) _ fun H2 e2 => ⟨b, dx, fs, rfl, e2 _ _ h1, h2, hb H2 e2 _ fun H3 e3 => h H3 (e2.trans e3) _⟩
variable {P : Program} {w : World} {K : PySem.W.Frag} {mg : Str → Option Value} {base : Heap} {Z : Ad}
theorem gd_sum {bs : List Int} (n1 : bs.length ≤ 24) (b0 : ∀ x ∈ bs, 0 ≤ x ∧ x ≤ 1000000000) : bs.sum.natAbs ≤ 2 ^ 40 := by
  have z := sum_bound (xs := bs) (M := 1000000000) (by decide) b0
  have : (bs.length : Int) * 1000000000 ≤ 24 * 1000000000 := Int.mul_le_mul_of_nonneg_right (by omega) (by decide)
  omega
def sp_profit (K : PySem.W.Frag) (Z : Ad) : Sp := fun vs H Q _ => ∃ (b p : Addr) (bs ds ps : List Int) (life : Int) (i t : Nat), vs = [.ref b, .ref p, .int (t : Int)] ∧ (t : Int) ≤ 1000000000000000000 ∧ BakAt K Z H b bs ds life i ∧ PriAt K Z H p ps ∧ (∀ k, 0 ≤ ps.getD k 0 ∧ ps.getD k 0 ≤ 1000000) ∧ RetV (.int (prT ps bs ds life t)) H Q
theorem ok_profit (T : Txt K mg Z) : FnOk P w K mg base CX0 6 Z.f_profit Z.d_profit p_profit (sp_profit K Z) := by
  refine T.F_profit.ok sc_profit (fun vs H Q E h => ?_) (fun cdv Ar outer s H vs Q E hr h => ?_)
  · obtain ⟨b, p, bs, ds, ps, life, i, t, rfl, _⟩ := h
    rfl
  · obtain ⟨b, p, bs, ds, ps, life, i, t, rfl, ht, hB, hP, hn, k⟩ := h
    refine ⟨_, (pss_cons (ps_asg (pe_meth (pv 0) T.cl_Bakery T.m_Bakery_totals (ok_Bakery_totals T) (hr.mono (by decide)) T.b_Bakery_totals .nil pass0 (pa_cons (pv 2) pa_nil)) (by exact (pg_tupK K (n := 3) rfl rfl (pgs_cons (pg_name (i := 3) sc_profit.nd rfl (Or.inl rfl)) (pgs_cons (pg_name (i := 4) sc_profit.nd rfl (Or.inl rfl)) (pgs_cons (pg_name (i := 5) sc_profit.nd rfl (Or.inl rfl)) pgs_nil))))))
      (pss_one (ps_ret (StX.pe_callO (pv 1) T.co_Prices (fnR_of (ok_Prices___call__ T) T.b_Prices___call__) (hr.mono (by decide)) pass0 (pa_cons (pe_call (ok_sum_repeated T) (hr.mono (by decide)) (by rfl) T.g_sum_repeated T.F_sum_repeated.kp T.b_sum_repeated .nil pass0 (pa_cons (pe_prop (pv 0) T.cl_Bakery T.pp_Bakery_bakes (ok_Bakery_bakes T) (hr.mono (by decide)) T.b_Bakery_bakes .nil pass0 rfl) (pa_cons (pv 2) pa_nil))) (pa_cons (pv 3) (pa_cons (pv 5) pa_nil))))))), ?_⟩
    have eb := bk_sum hB.com t
    have gd := hB.gd
    obtain ⟨dx, fs, i1, i2⟩ := hB.nf "totals" (by decide)
    refine q_un3W (x := .int _) (y := .int _) (z := .int _) (fun H1 e Q q => ev_var (σ := [some (.ref b), some (.ref p), some (.int (t : Int)), none, none, none]) (i := 0) rfl H1 (Ex.refl H1) _ fun H2 e2 => ⟨b, dx, fs, rfl, e2 _ _ (e _ _ i1), i2, ev_var (σ := [some (.ref b), some (.ref p), some (.int (t : Int)), none, none, none]) (i := 2) rfl H2 (Ex.refl H2) _ fun H3 e3 => ⟨b, bs, ds, life, i, t, rfl, ht, hB.mono ((e.trans e2).trans e3), fun p' H4 n4 e4 h4 => q p' H4 ((e2.trans e3).trans e4) (st_of h4)⟩⟩) fun H1 e1 => ?_
    refine s_ret (v := .int (prT ps bs ds life t)) (ev_pcall (ev_var rfl) (hP.mono e1) (ea_cons (x := .int (psum (bk bs) t)) ?_ (ea_cons (ev_var rfl) (ea_cons (ev_var rfl) ea_nil))) hn) fun H2 e2 => k H2 (e1.trans e2)
    rw [← eb]
    exact fun H2 e2 Q q => ew_bks (ev_var rfl) (hB.mono e1) H2 e2 _ fun p' H3 e3 h3 => ev_var (i := 2) rfl H3 (Ex.refl H3) _ fun H4 e4 => ⟨p', bs, (t : Int), rfl, .inl (ex_t e4 h3), gd.n0, gd.n1, gd_sum gd.n1 gd.b0, fun H5 e5 => q H5 ((e3.trans e4).trans e5)⟩
def sp_proX (K : PySem.W.Frag) (Z : Ad) : Sp := fun vs H _ E => ∃ (b p : Addr) (bs ds : List Int) (life : Int) (i : Nat) (n : Int), vs = [.ref b, .ref p, .int n] ∧ BakAt K Z H b bs ds life i ∧ (n < 0 ∨ 1000000000000000000 < n) ∧ n.natAbs < 10 ^ 30 ∧ ∀ H', Ex H H' → E (.ref Z.c_InvalidNumber) none H'
theorem okX_profit (T : Txt K mg Z) (hP : P = Z.P) : FnOk P w K mg base (L2.CX P w) 6 Z.f_profit Z.d_profit p_profit (sp_proX K Z) := by
  refine T.F_profit.okX sc_profit (fun vs H Q E h => ?_) (fun cdv Ar outer s H vs Q E hr h => ?_)
  · obtain ⟨b, p, bs, ds, life, i, n, rfl, _⟩ := h
    rfl
  · obtain ⟨b, p, bs, ds, life, i, n, rfl, hB, hn, hz, k⟩ := h
    obtain ⟨dx, fs, i1, i2⟩ := hB.nf "totals" (by decide)
    refine ⟨_, (pss_cons (ps_asg (pe_meth (pv 0) T.cl_Bakery T.m_Bakery_totals (okM_Bakery_totals T hP) (hr.mono (by decide)) T.b_Bakery_totals .nil (passes_call (takes_of rfl rfl rfl rfl) (fun _ _ _ _ h => h)) (pa_cons (pv 2) pa_nil)) (by exact (pg_tupK K (n := 3) rfl rfl (pgs_cons (pg_name (i := 3) sc_profit.nd rfl (Or.inl rfl)) (pgs_cons (pg_name (i := 4) sc_profit.nd rfl (Or.inl rfl)) (pgs_cons (pg_name (i := 5) sc_profit.nd rfl (Or.inl rfl)) pgs_nil))))))
      (pss_one (ps_ret (StX.pe_callO (pv 1) T.co_Prices (fnR_of (ok_Prices___call__ T) T.b_Prices___call__) (hr.mono (by decide)) pass0 (pa_cons (pe_call (ok_sum_repeated T) (hr.mono (by decide)) (by rfl) T.g_sum_repeated T.F_sum_repeated.kp T.b_sum_repeated .nil pass0 (pa_cons (pe_prop (pv 0) T.cl_Bakery T.pp_Bakery_bakes (ok_Bakery_bakes T) (hr.mono (by decide)) T.b_Bakery_bakes .nil pass0 rfl) (pa_cons (pv 2) pa_nil))) (pa_cons (pv 3) (pa_cons (pv 5) pa_nil))))))), ?_⟩
    exact q_rzM (ev_var rfl) i1 i2 (ev_var rfl) fun H1 e1 Q => .inr ⟨b, n, rfl, hn, hz, fun H2 e2 => k H2 (e1.trans e2)⟩
theorem okM_profit (T : Txt K mg Z) (hP : P = Z.P) : FnOk P w K mg base (L2.CX P w) 6 Z.f_profit Z.d_profit p_profit (spOr (sp_profit K Z) (sp_proX K Z)) := fn_or (fn_lift (ok_profit T)) (okX_profit T hP)
theorem ev_profit {σ : L2.St} {H : Hp} {ta tb tc : TE} {b p : Addr} {bs ds ps : List Int} {life : Int} {i t : Nat} {n : Int} {E : XK} (ha : Ev ta σ H (.ref b)) (hb : Ev tb σ H (.ref p)) (hc : Ev tc σ H (.int n)) (hn : n = (t : Int)) (ht : (t : Int) ≤ 1000000000000000000) (hB : BakAt K Z H b bs ds life i) (hP : PriAt K Z H p ps) (hp : ∀ k, 0 ≤ ps.getD k 0 ∧ ps.getD k 0 ≤ 1000000) :
    Ev (tCall (sp_profit K Z) [] E (tCons ta (tCons tb (tCons tc tNil)))) σ H (.int (prT ps bs ds life t)) := by
  subst hn
  exact ev_call (ea_cons ha (ea_cons hb (ea_cons hc ea_nil))) fun H1 e Q q E => ⟨b, p, bs, ds, ps, life, i, t, rfl, ht, hB.mono e, hP.mono e, hp, q⟩
def sp_first (K : PySem.W.Frag) (Z : Ad) : Sp := fun vs H Q _ => ∃ (b p : Addr) (bs ds ps : List Int) (life : Int) (i : Nat) (goal : Int), vs = [.ref b, .ref p, .int goal] ∧ 0 ≤ goal ∧ goal ≤ 1000000000000000000 ∧ BakAt K Z H b bs ds life i ∧ PriAt K Z H p ps ∧ (∀ k, 0 ≤ ps.getD k 0 ∧ ps.getD k 0 ≤ 1000000) ∧
  ∀ v, FirstV (prT ps bs ds life) goal v → RetV v H Q
theorem ok_first_profit (T : Txt K mg Z) : FnOk P w K mg base CX0 7 Z.f_first_profit Z.d_first_profit p_first_profit (sp_first K Z) := by
  refine T.F_first_profit.ok sc_first_profit (fun vs H Q E h => ?_) (fun cdv Ar outer s H vs Q E hr h => ?_)
  · obtain ⟨b, p, bs, ds, ps, life, i, goal, rfl, _⟩ := h
    rfl
  · obtain ⟨b, p, bs, ds, ps, life, i, goal, rfl, g0, g1, hB, hP, hn, k⟩ := h
    obtain ⟨G, rfl⟩ : ∃ G : Nat, goal = (G : Int) := ⟨goal.toNat, by omega⟩
    refine ⟨_, (pss_cons (ps_expr (pe_call (ok_check_number T) (hr.mono (by decide)) (by rfl) T.g_check_number T.F_check_number.kp T.b_check_number .nil pass0 (pa_cons (pv 2) (pa_cons pe_int (pa_cons (pe_glob (v := .int 1000000000000000000) (by rfl) T.g_MOST_GOAL ⟨_, rfl⟩) pa_nil)))))
      (pss_cons (ps_for PassesOwn.never rfl (pi_range1 (by rfl) T.b_range (pa_cons (pe_op op_add (pe_glob (v := .int 1000) (by rfl) T.g_MOST_PROFIT_DAYS ⟨_, rfl⟩) pe_int) pa_nil)) (pg_name (i := 3) sc_first_profit.nd rfl (Or.inl rfl)) (pss_one (ps_if (pt_cmpR op_ge (pe_call (ok_profit T) (hr.mono (by decide)) (by rfl) T.g_profit T.F_profit.kp T.b_profit .nil pass0 (pa_cons (pv 0) (pa_cons (pv 1) (pa_cons (pv 3) pa_nil)))) (pv 2) (nomark _)) (pss_one (ps_ret (pv 3))) pss_nil)))
      (pss_one (ps_ret pe_non)))), ?_⟩
    refine q_drop (ev_call (ea_cons (ev_var rfl) (ea_cons ev_c (ea_cons ev_c ea_nil))) (spv_num (by omega) g1)) fun H1 e1 => ?_
    refine q_forR1 (n := 1001) (ea_cons (Ev.int_eq (ev_op ev_c ev_c rv_I0) (by decide)) ea_nil) ⟨by decide, by decide⟩ (fun i σ' H' => (∃ x3, σ' = [some (.ref b), some (.ref p), some (.int (G : Int)), x3]) ∧ Ex H H' ∧ ∀ j, j < i → prT ps bs ds life j < (G : Int))
      (fun H2 e2 => ⟨⟨none, rfl⟩, e1.trans e2, fun j hj => absurd hj (Nat.not_lt_zero j)⟩) ?_ ?_
    · rintro d σ' H' hd ⟨⟨x3, rfl⟩, e2, hl⟩
      refine s_when (et_test (ev_op (ev_profit (t := d) (ev_var rfl) (ev_var rfl) (ev_var rfl) rfl (by omega) (hB.mono e2) (hP.mono e2) hn) (ev_var rfl) rv_I0)) (fun hb H3 e3 => ?_) fun hb H3 e3 => ⟨⟨_, rfl⟩, e2.trans e3, fun j hj => ?_⟩
      · exact s_ret (ev_var rfl) fun H4 e4 => k _ (.inl ⟨d, by omega, rfl, by simpa using hb, hl⟩) H4 ((e2.trans e3).trans e4)
      · have := hb
        simp at this
        by_cases z : j = d
        · rw [z]; omega
        · exact hl j (by omega)
    · rintro σ' H' ⟨⟨x3, rfl⟩, e2, hl⟩
      exact s_ret ev_c fun H4 e4 => k _ (.inr ⟨rfl, fun j hj => hl j (by show j < 1001; omega)⟩) H4 (e2.trans e4)
def sp_firX (Z : Ad) : Sp := fun vs H _ E => ∃ (x y : V) (n : Int), vs = [x, y, .int n] ∧ (n < 0 ∨ 1000000000000000000 < n) ∧ n.natAbs < 10 ^ 30 ∧ ∀ H', Ex H H' → E (.ref Z.c_InvalidNumber) none H'
theorem okX_first_profit (T : Txt K mg Z) (hP : P = Z.P) : FnOk P w K mg base (L2.CX P w) 7 Z.f_first_profit Z.d_first_profit p_first_profit (sp_firX Z) := by
  refine T.F_first_profit.okX sc_first_profit (fun vs H Q E h => ?_) (fun cdv Ar outer s H vs Q E hr h => ?_)
  · obtain ⟨x, y, n, rfl, _⟩ := h
    rfl
  · obtain ⟨x, y, n, rfl, hn, hz, k⟩ := h
    refine ⟨_, (pss_cons (ps_expr (pe_call (okM_check_number T hP) (hr.mono (by decide)) (by rfl) T.g_check_number T.F_check_number.kp T.b_check_number .nil (passes_call (takes_of rfl rfl rfl rfl) (fun _ _ _ _ h => h)) (pa_cons (pv 2) (pa_cons pe_int (pa_cons (pe_glob (v := .int 1000000000000000000) (by rfl) T.g_MOST_GOAL ⟨_, rfl⟩) pa_nil)))))
      (pss_cons (ps_for (passes_of rfl) rfl (pi_range1 (by rfl) T.b_range (pa_cons (pe_op op_add (pe_glob (v := .int 1000) (by rfl) T.g_MOST_PROFIT_DAYS ⟨_, rfl⟩) pe_int) pa_nil)) (pg_name (i := 3) sc_first_profit.nd rfl (Or.inl rfl)) (pss_one (ps_if (pt_cmpR op_ge (pe_call (okM_profit T hP) (hr.mono (by decide)) (by rfl) T.g_profit T.F_profit.kp T.b_profit .nil (passes_call (takes_of rfl rfl rfl rfl) (fun _ _ _ _ h => h)) (pa_cons (pv 0) (pa_cons (pv 1) (pa_cons (pv 3) pa_nil)))) (pv 2) (nomark _)) (pss_one (ps_ret (pv 3))) pss_nil)))
      (pss_one (ps_ret pe_non)))), ?_⟩
    exact q_rz (ea_cons (ev_var rfl) (ea_cons ev_c (ea_cons ev_c ea_nil))) fun H1 e1 Q => .inr ⟨n, 0, 1000000000000000000, rfl, hn, hz, by decide, by decide, fun H2 e2 => k H2 (e1.trans e2)⟩
theorem okM_first_profit (T : Txt K mg Z) (hP : P = Z.P) : FnOk P w K mg base (L2.CX P w) 7 Z.f_first_profit Z.d_first_profit p_first_profit (spOr (sp_first K Z) (sp_firX Z)) := fn_or (fn_lift (ok_first_profit T)) (okX_first_profit T hP)
end Sw
namespace Sw
open PySem PySem.Spec PyProof.Rows L2 Evl
local macro_rules | `(tactic| walk_at "ev") => `(tactic| first
  | exact ev_c
  | exact ev_var rfl
  | ((with_reducible show Ev (tCB rMax2 _) _ _ _); exact ev_maxi (by walk_at "ev") (by walk_at "ev"))
  | ((with_reducible show Ev (tCB rMn _) _ _ _); exact ev_min2 (by walk_at "ev") (by walk_at "ev"))
  | ((with_reducible show Ev (tUn _ _) _ _ _); exact ev_un (by walk_at "ev") ru_neg)
  | ((with_reducible show Ev (tFld _ _ _) _ _ _); exact ev_fldK (by walk_at "ev") (by assumption))
  | ((with_reducible show Ev (tOp (rI0 _) _ _) _ _ _); exact ev_op (by walk_at "ev") (by walk_at "ev") rv_I0)
  | ((with_reducible show Ev (tOp rEq _ _) _ _ _); exact ev_op (by walk_at "ev") (by walk_at "ev") (rv_eq rfl))
  | ((with_reducible show Ev (tOp rNe _ _) _ _ _); exact ev_op (by walk_at "ev") (by walk_at "ev") (rv_ne rfl)))

section
variable {K : PySem.W.Frag} {Z : Ad} {σ : L2.St} {H H' : Hp} {ta tb tc te : TE} {v : V} {h l p : Addr} {ns bs ds : List Int} {life : Int} {A B : Int → Prop} {D : Ends} {tz : TS}
theorem et_chainD {i j k : Int} {f g : Int → Int → Bool} (ha : Ev ta σ H (.int i)) (hb : Ev tb σ H (.int j)) (hc : Ev tc σ H (.int k)) : EvT (tTest (tChain (rI0 fun i j => .bl (f i j)) (rI0 fun i j => .bl (g i j)) ta tb tc)) σ H (f i j && g j k) := et_test (fun H1 e Q q =>
  ha H1 e _ fun H2 e2 => hb H2 (e.trans e2) _ fun H3 e3 => ⟨i, j, rfl, rfl, f i j, rfl, by
    cases hf : f i j with
    | true => exact hc H3 ((e.trans e2).trans e3) _ fun H4 e4 => ⟨j, k, rfl, rfl, by rw [hf] at q; exact q H4 ((e2.trans e3).trans e4)⟩
    | false => rw [hf] at q; exact q H3 (e2.trans e3)⟩)
/-- two lists of numbers, joined -/
theorem x_catL {A B : List Int → Prop} (ha : EvX ta σ H h l (LI A)) (hb : EvX tb σ H h l (LI B)) (hz : ∀ as bs, A as → B bs → as.length + bs.length ≤ 100000) : EvX (tOp rCat ta tb) σ H h l (LI fun ns => ∃ as bs, ns = as ++ bs ∧ A as ∧ B bs) := fun H1 d Q q =>
  ha H1 d _ fun _ H2 d2 ⟨p, as, e, hp, hA⟩ => hb H2 (d.trans d2) _ fun _ H3 d3 ⟨r, bs, e', hr, hB⟩ => by
    subst e e'
    have hp3 := wn_ex _ _ (d3.ex _ _ hp)
    refine ⟨p, r, as.map V.int, bs.map V.int, rfl, rfl, hp3, wn_ex _ _ hr, sz_of (by rw [List.length_map, List.length_map]; exact hz as bs hA hB), fun t ht => ?_⟩
    have d4 := Dr.of d3.hs (Ex.new (o := .lst (as.map V.int ++ bs.map V.int)) ht)
    exact q _ _ ((d2.trans d3).trans d4) ⟨t, as ++ bs, rfl, by rw [wn_ni (hl_new (G' := H3) d3.hs ht), upd_same, List.map_append], as, bs, rfl, hA, hB⟩
theorem x_vL {A : List Int → Prop} (hv : ∀ G, Ev ta σ G (.ref p)) (hp : wn H (hl h l) p = some (.lst (ns.map V.int))) (hA : A ns) : EvX ta σ H h l (LI A) := fun H1 d Q q =>
  hv H1 H1 (Ex.refl _) Q fun H2 e2 => q _ H2 (Dr.of d.hs e2) ⟨p, ns, rfl, (d.ex.trans (wn_mono e2)) p _ hp, hA⟩
theorem x_pairI {m n : Nat} (hs : HS H h l) (ha : EvI ta σ H h l A) (hb : EvI tb σ H h l B) (k : ∀ i j S, Dr h l H S → A i → B j → tz D ((σ.set m (some (.int i))).set n (some (.int j))) S) : tSeq (tAsg (tTup (tCons ta (tCons tb tNil))) (gTup K 2 (gCons (gName m) (gCons (gName n) gNil)))) tz D σ H :=
  ha H (Dr.refl hs) _ fun v H1 d1 ⟨i, e, hi⟩ => hb H1 d1 _ fun w H2 d2 ⟨j, e', hj⟩ => ⟨by show 2 ≤ sizeLine; decide, fun r hr => by
    subst e e'
    exact ⟨r, [.int i, .int j], rfl, st_of upd_same, rfl, _, _, rfl, _, _, rfl, rfl, k i j _ ((d1.trans d2).trans (Dr.of d2.hs (Ex.new (o := .tup [.int i, .int j]) hr))) hi hj⟩⟩
theorem xi_dr {cells : List Int} {n : Int} {E : XK} (hc : SqL K (wn H (hl h l)) l (cells.map V.int)) (ha : ∀ G, Ev ta σ G (.ref h)) (hb : EvI tb σ H h l (fun i => i = n)) (p0 : 0 < n) (p1 : n ≤ 1000000000000000000) : EvI (tCall (sp_drawn K) [] E (tCons ta (tCons tb tNil))) σ H h l (fun v => 0 ≤ v ∧ v < n) :=
  (xi_drawn hc ha hb (fun i e => by subst e; exact ⟨p0, p1⟩)).imp fun v q => ⟨q.1, by obtain ⟨j, ej, zj⟩ := q.2; omega⟩
theorem xi_drA {cells : List Int} {n : Int} {E : XK} (hc : SqL K (wn H (hl h l)) l (cells.map V.int)) (ha : ∀ G, Ev ta σ G (.ref h)) (hb : EvI tb σ H h l A) (hA : ∀ i, A i → 0 < i ∧ i ≤ n) (p1 : n ≤ 1000000000000000000) : EvI (tCall (sp_drawn K) [] E (tCons ta (tCons tb tNil))) σ H h l (fun v => 0 ≤ v ∧ v < n) :=
  (xi_drawn hc ha hb (fun i e => by have := hA i e; omega)).imp fun v q => ⟨q.1, by obtain ⟨j, ej, zj⟩ := q.2; have := hA j ej; omega⟩
/-- a bakery whose life is drawn, prices that are drawn -/
theorem q_bakD {t1 t2 : TE} {pb pd : Addr} {E : XK} {i1 : Nat} (hs : HS H h l) (h1 : ∀ G, Ev t1 σ G (.ref pb)) (h2 : ∀ G, Ev t2 σ G (.ref pd)) (hx : EvI te σ H h l A) (hb : SqT K (wn H (hl h l)) pb (bs.map V.int)) (hd : SqT K (wn H (hl h l)) pd (ds.map V.int)) (gd : Good bs ds) (hA : ∀ i, A i → 1 ≤ i ∧ i ≤ 30)
    (k : ∀ (b : Addr) (i : Nat) (life : Int) (S : Hp), Dr h l H S → BakAt K Z (wn S (hl h l)) b bs ds life i → A life → tz D (σ.set i1 (some (.ref b))) S) : tSeq (tAsg (tMake Z.c_Bakery (sp_Binit K Z) [] E (tCons t1 (tCons t2 (tCons te tNil)))) (gName i1)) tz D σ H := by
  dsimp only [tSeq, tAsg, gName, tMake, tCons, tNil]
  refine h1 H H (Ex.refl _) _ fun H1 e1 => h2 H1 H1 (Ex.refl _) _ fun H2 e2 => hx H2 (Dr.of hs (e1.trans e2)) _ fun v H3 d3 ⟨life, e, hi⟩ => ?_
  subst e
  have d13 := (Dr.of hs (e1.trans e2)).trans d3
  have hX := er_bakery (K := K) (Z := Z) (M := hl h l) (H := H3) (σ := [some (.ref pb), some (.ref pd), some (.int life)]) (E := E) (t := tCons (tVar 0) (tCons (tVar 1) (tCons (tVar 2) tNil))) (ea_cons (ev_var rfl) (ea_cons (ev_var rfl) (ea_cons (ev_var rfl) ea_nil))) (ex_t d13.ex hb) (ex_t d13.ex hd) gd (hA life hi).1 (hA life hi).2
  have z := hX H3 (Ex.refl _) d13.hs.kn (fun v S => tz D (σ.set i1 (some v)) S) fun p S _ e4 ⟨i, hP⟩ => k p i life S (d13.trans (Dr.of d13.hs e4)) hP hi
  dsimp only [tMake, tCons, tNil] at z
  obtain ⟨v1, r1, v2, r2, v3, r3, z⟩ := z
  cases r1; cases r2; cases r3
  exact z
theorem pri_wn {ps : List Int} (hs : HS H h l) (hp : PriAt K Z H p ps) : PriAt K Z (wn H (hl h l)) p ps := by
  have k : ∀ {b : Addr} {o : HO}, H b = some o → (∀ ys, o ≠ .lst ys) → wn H (hl h l) b = some o := fun e n1 => (wn_ni (hl_kind hs e n1)).trans e
  obtain ⟨⟨t, a, b⟩, hl3⟩ := hp
  obtain ⟨⟨dx, fs, e, q⟩, c, na⟩ := a
  refine ⟨⟨t, ⟨⟨dx, fs, k e (fun _ z => nomatch z), q⟩, c, na⟩, ?_⟩, hl3⟩
  rcases b with (b | ⟨u, b⟩) | b
  · exact .inl (.inl (k b fun _ z => nomatch z))
  · exact .inl (.inr ⟨u, k b fun _ z => nomatch z⟩)
  · exact .inr b
theorem q_priD {t1 t2 t3 : TE} {E : XK} {i1 : Nat} {A1 A2 A3 : Int → Prop} (hs : HS H h l) (h1 : EvI t1 σ H h l A1) (h2 : EvI t2 σ H h l A2) (h3 : EvI t3 σ H h l A3) (hf : ∀ a b c, A1 a → A2 b → A3 c → flt [a, b, c] = none)
    (k : ∀ (p : Addr) (a b c : Int) (S : Hp), Dr h l H S → PriAt K Z (wn S (hl h l)) p [a, b, c] → A1 a → A2 b → A3 c → tz D (σ.set i1 (some (.ref p))) S) : tSeq (tAsg (tMake Z.c_Prices (sp_Pinit K Z) [] E (tCons t1 (tCons t2 (tCons t3 tNil)))) (gName i1)) tz D σ H := by
  dsimp only [tSeq, tAsg, gName, tMake, tCons, tNil]
  refine h1 H (Dr.refl hs) _ fun v1 H1 d1 ⟨a, e1, ha⟩ => h2 H1 d1 _ fun v2 H2 d2 ⟨b, e2, hb⟩ => h3 H2 (d1.trans d2) _ fun v3 H3 d3 ⟨c, e3, hc⟩ => ?_
  subst e1 e2 e3
  have d13 := (d1.trans d2).trans d3
  have z := r_pri (K := K) (Z := Z) (H := H3) (σ := [some (.int a), some (.int b), some (.int c)]) (E := E) (t := tCons (tVar 0) (tCons (tVar 1) (tCons (tVar 2) tNil))) (Q := fun v S => tz D (σ.set i1 (some v)) S) (sp := sp_Pinit K Z) (fun _ _ _ _ h => h) (ea_cons (ev_var rfl) (ea_cons (ev_var rfl) (ea_cons (ev_var rfl) ea_nil))) (hf a b c ha hb hc) fun p S _ e4 hP =>
    k p a b c S (d13.trans (Dr.of d13.hs e4)) (pri_wn (d13.hs.mono e4) hP) ha hb hc
  dsimp only [tMake, tCons, tNil] at z
  obtain ⟨v1, r1, v2, r2, v3, r3, z⟩ := z
  cases r1; cases r2; cases r3
  exact z
end
variable {P : Program} {w : World} {K : PySem.W.Frag} {mg : Str → Option Value} {base : Heap} {Z : Ad}
def sp_lawamounts (K : PySem.W.Frag) : Sp := fun vs H Q _ => ∃ (h l : Addr) (cells : List Int) (count high : Int), vs = [.ref h, .int count, .int high] ∧ 0 ≤ count ∧ count ≤ 1000 ∧ 0 ≤ high ∧ high ≤ 1000000000 ∧ HS H h l ∧ SqL K (wn H (hl h l)) l (cells.map V.int) ∧
  ∀ (p : Addr) (ns : List Int) (H' : Hp), Dr h l H H' → wn H' (hl h l) p = some (.tup (ns.map V.int)) → (ns.length : Int) = count → (∀ x ∈ ns, 0 ≤ x ∧ x ≤ high) → Q (.ref p) H'
theorem ok__law_amounts (T : Txt K mg Z) : FnOk P w K mg base CX0 2 Z.f__law_amounts Z.d__law_amounts p__law_amounts (sp_lawamounts K) := by
  refine T.F__law_amounts.ok sc__law_amounts (fun vs H Q E h => ?_) (fun cdv Ar outer s H vs Q E hr h => ?_)
  · obtain ⟨a, l, cells, count, high, rfl, _⟩ := h
    rfl
  · obtain ⟨a, l, cells, count, high, rfl, c0, c1, w0, w1, hs, hS, k⟩ := h
    refine ⟨_, (pss_one (ps_ret (pe_callTy (r := rTupS K) (call_tuple_of) (by rfl) T.b_tuple boot_tuple (pa_cons (pe_lc (own := [("_law_k", 3)]) rfl sc__law_amounts.nd (pi_range1 (by rfl) T.b_range (pa_cons (pv 1) pa_nil)) (blkOk_by (own := [("_law_k", 3)]) (N := n__law_amounts) (sc := defScope s__law_amounts) (scope := { kind := PySem.ScopeKind.function, names := [ (PySem.Str.ofString ".0", PySem.NameKind.local), (PySem.Str.ofString "_law_k", PySem.NameKind.local), (PySem.Str.ofString "_law_drawn", PySem.NameKind.globalImplicit), (PySem.Str.ofString "int", PySem.NameKind.globalImplicit), (PySem.Str.ofString "_law_high", PySem.NameKind.free), (PySem.Str.ofString "_law_state", PySem.NameKind.free)], isGenerator := false, isCoroutine := false, more := [] : PySem.Scope }) (by decide +kernel)) (fun _ _ _ _ _ => (pg_name (i := 3) sc__law_amounts.nd rfl (Or.inl rfl))) (fun _ _ _ _ _ => pts_nil) (fun _ _ _ _ _ => (pe_op op_mul (pe_call (ok__law_drawn T) (hr.mono (by decide)) (by rfl) T.g__law_drawn T.F__law_drawn.kp T.b__law_drawn .nil pass0 (pa_cons (pv 0) (pa_cons (pe_op op_add (pv 2) pe_int) pa_nil))) (pe_callTy (r := rInt1) (call_int1) (by rfl) T.b_int boot_int (pa_cons (pe_cmpR op_gt (pe_call (ok__law_drawn T) (hr.mono (by decide)) (by rfl) T.g__law_drawn T.F__law_drawn.kp T.b__law_drawn .nil pass0 (pa_cons (pv 0) (pa_cons pe_int pa_nil))) pe_int (nomark _)) pa_nil))))) pa_nil)))), ?_⟩
    have hx : EvX _ _ H a l (TI' fun ns => (ns.length : Int) = count ∧ ∀ x ∈ ns, 0 ≤ x ∧ x ≤ high) := x_tupL (K := K) (x_lcR (jj := 3) (vs := [3]) (n := count) (σ := [some (.ref a), some (.int count), some (.int high), none]) (ea_cons (ev_var (i := 1) rfl) ea_nil) ⟨c0, by omega⟩ (fun _ => rfl) fun i H1 d1 hi =>
      xi_op (A := fun v => 0 ≤ v ∧ v < high + 1) (B := fun i => i = 0 ∨ i = 1) (xi_dr (E := E0) (n := high + 1) (ex_l d1.ex hS) (fun G => ev_var (i := 0) rfl) (xi_op0 (g := fun i j => i + j) (A := fun i => i = high) (B := fun i => i = 1) (xi_ev (ev_var (i := 2) rfl) rfl) (xi_ev ev_c rfl) (fun i j a b => by omega)) (by omega) (by omega))
        (xi_intb (xb_cmp (g := fun i j => decide (j < i)) (B := fun _ => True) (xi_dr (E := E0) (n := 4) (ex_l d1.ex hS) (fun G => ev_var (i := 0) rfl) (xi_ev ev_c rfl) (by decide) (by decide)) (xi_ev (i := 0) ev_c trivial)))
        (R := CMul) (g := fun i j => i * j) fun i j hi hj => ⟨by rcases hj with rfl | rfl <;> exact .inr (by decide), by rcases hj with rfl | rfl <;> simp <;> omega⟩)
    exact hx H (Dr.refl hs) _ fun v H2 d2 ⟨p, ns, e, hp, hl', hA⟩ => by
      subst e
      exact k p ns H2 d2 hp hl' hA
theorem x_amounts {σ : L2.St} {H : Hp} {h l : Addr} {ta tb tc : TE} {E : XK} {cells : List Int} {n w : Int} (hc : SqL K (wn H (hl h l)) l (cells.map V.int)) (ha : ∀ G, Ev ta σ G (.ref h)) (hb : Ev tb σ (wn H (hl h l)) (.int n)) (hw : Ev tc σ (wn H (hl h l)) (.int w)) (n0 : 0 ≤ n) (n1 : n ≤ 1000) (w0 : 0 ≤ w) (w1 : w ≤ 1000000000) :
    EvX (tCall (sp_lawamounts K) [] E (tCons ta (tCons tb (tCons tc tNil)))) σ H h l (TI' fun ns => (ns.length : Int) = n ∧ ∀ x ∈ ns, 0 ≤ x ∧ x ≤ w) :=
  x_call3 (A := fun i => i = n) (B := fun j => j = w) ha (xi_ev hb rfl) (xi_ev hw rfl) fun i j H1 ei ej d1 Q q => by
    subst ei ej
    exact ⟨h, l, cells, i, j, rfl, n0, n1, w0, w1, d1.hs, ex_l d1.ex hc, fun p ns H2 d2 hp e1 e2 => q _ H2 d2 ⟨p, ns, rfl, hp, e1, e2⟩⟩
end Sw
namespace Sw
open PySem PySem.Spec PyProof.Rows L2 Evl
local macro_rules | `(tactic| walk_at "ev") => `(tactic| first
  | exact ev_c
  | exact ev_var rfl
  | ((with_reducible show Ev (tCB rMax2 _) _ _ _); exact ev_maxi (by walk_at "ev") (by walk_at "ev"))
  | ((with_reducible show Ev (tCB rMn _) _ _ _); exact ev_min2 (by walk_at "ev") (by walk_at "ev"))
  | ((with_reducible show Ev (tUn _ _) _ _ _); exact ev_un (by walk_at "ev") ru_neg)
  | ((with_reducible show Ev (tFld _ _ _) _ _ _); exact ev_fldK (by walk_at "ev") (by assumption))
  | ((with_reducible show Ev (tOp (rI0 _) _ _) _ _ _); exact ev_op (by walk_at "ev") (by walk_at "ev") rv_I0)
  | ((with_reducible show Ev (tOp rEq _ _) _ _ _); exact ev_op (by walk_at "ev") (by walk_at "ev") (rv_eq rfl))
  | ((with_reducible show Ev (tOp rNe _ _) _ _ _); exact ev_op (by walk_at "ev") (by walk_at "ev") (rv_ne rfl)))

/-! ### isinstance, and two values that are alike -/
def Tyn (K : PySem.W.Frag) (H : Hp) (x : V) (n : String) : Prop := (∃ i, x = .int i ∧ n = "int") ∨ (x = .non ∧ n = "NoneType") ∨ (∃ a xs, x = .ref a ∧ SqT K H a xs ∧ n = "tuple") ∨ (∃ a xs, x = .ref a ∧ SqL K H a xs ∧ n = "list")
section
variable {K : PySem.W.Frag} {σ : L2.St} {H H' : Hp} {ta tb te tx : TE} {x y z v : V} {a b : Addr} {xs ys : List V} {n m : String} {r : Bool}
theorem Tyn.mono (e : Ex H H') (h : Tyn K H x n) : Tyn K H' x n := by
  rcases h with h | h | ⟨a, xs, h1, h2, h3⟩ | ⟨a, xs, h1, h2, h3⟩
  · exact .inl h
  · exact .inr (.inl h)
  · exact .inr (.inr (.inl ⟨a, xs, h1, ex_t e h2, h3⟩))
  · exact .inr (.inr (.inr ⟨a, xs, h1, ex_l e h2, h3⟩))
theorem Tyn.ty (h : Tyn K H x n) : TyX K H x (.type n) := by
  rcases h with ⟨i, rfl, rfl⟩ | ⟨rfl, rfl⟩ | ⟨a, xs, rfl, h2, rfl⟩ | ⟨a, xs, rfl, h2, rfl⟩
  · exact .base (.int i)
  · exact .base .non
  · rcases h2 with (h | ⟨o, h⟩) | ⟨o, its, k, h1, h2, _⟩
    · exact .base (.tup h)
    · exact .fTuple h
    · exact .kTuple h1 h2
  · rcases h2 with (h | ⟨o, h⟩) | ⟨o, its, k, h1, h2, _⟩
    · exact .base (.lst h)
    · exact .base (.frz h)
    · exact .kList h1 h2
theorem ev_isi (h : Ev ta σ H x) (ty : Tyn K H x n) (e : kitB n m = some r) : Ev (tCB (rIsi K) (tCons ta (tCons (tC (.ty m)) tNil))) σ H (.bl r) := fun H1 e1 Q q =>
  h H1 e1 _ fun H2 e2 => ⟨x, .ty m, .type n, .type m, r, rfl, .ty m, (ty.mono (e1.trans e2)).ty, kit_ty e, q H2 e2⟩
theorem ev_isiT {r1 r2 : Bool} (h : Ev ta σ H x) (ty : Tyn K H x n) (e : kitB n "tuple" = some r1) (e' : kitB n "list" = some r2) : Ev (tCB (rIsiT K) (tCons ta (tCons (tTup (tCons (tC (.ty "tuple")) (tCons (tC (.ty "list")) tNil))) tNil))) σ H (.bl (r1 || r2)) := fun H1 e1 Q q =>
  h H1 e1 _ fun H2 e2 => ⟨by show 2 ≤ sizeLine; decide, fun p hp => ⟨x, p, [.ty "tuple", .ty "list"], .type n, [.type "tuple", .type "list"], r1 || r2, rfl, upd_same, .cons (.ty _) (.cons (.ty _) .nil), (ty.mono ((e1.trans e2).trans (Ex.new hp))).ty, by
    refine kitAny_cons (kit_ty e) (fun h1 => ?_) (fun h1 => by rw [h1]; rfl)
    refine kitAny_cons (kit_ty e') (fun h2 => ?_) (fun h2 => by rw [h1, h2]; rfl)
    rw [h1, h2]; exact kitAny_nil, q _ (e2.trans (Ex.new hp))⟩⟩
end
def AlS (x y : V) : Prop := (∃ i, x = .int i ∧ y = .int i) ∨ (x = .non ∧ y = .non)
/-- x and y stand for equal data, at most n deep -/
def Alk (K : PySem.W.Frag) (H : Hp) : Nat → V → V → Prop
  | 0, x, y => AlS x y
  | n + 1, x, y => AlS x y ∨ ∃ a b xs ys, x = .ref a ∧ y = .ref b ∧ (SqT K H a xs ∧ SqT K H b ys ∨ SqL K H a xs ∧ SqL K H b ys) ∧ xs.length = ys.length ∧ xs.length ≤ 1000 ∧ ∀ (i : Nat) u v, xs[i]? = some u → ys[i]? = some v → Alk K H n u v
theorem Alk.mono {K : PySem.W.Frag} {H H' : Hp} (e : Ex H H') : ∀ n x y, Alk K H n x y → Alk K H' n x y
  | 0, _, _, h => h
  | n + 1, x, y, h => by
    rcases h with h | ⟨a, b, xs, ys, h1, h2, h3, h4, h5, h6⟩
    · exact .inl h
    · refine .inr ⟨a, b, xs, ys, h1, h2, ?_, h4, h5, fun i u v q1 q2 => Alk.mono e n u v (h6 i u v q1 q2)⟩
      rcases h3 with h3 | h3
      · exact .inl ⟨ex_t e h3.1, ex_t e h3.2⟩
      · exact .inr ⟨ex_l e h3.1, ex_l e h3.2⟩
def sp_same (K : PySem.W.Frag) (n : Nat) : Sp := fun vs H Q _ => ∃ x y, vs = [x, y] ∧ Alk K H n x y ∧ RetV (.bl true) H Q
theorem spv_same {K : PySem.W.Frag} {n : Nat} {H : Hp} {x y : V} (h : Alk K H n x y) : SpV (sp_same K n) [x, y] H (.bl true) := fun _ e _ q _ => ⟨x, y, rfl, h.mono e, q⟩
variable {P : Program} {w : World} {K : PySem.W.Frag} {mg : Str → Option Value} {base : Heap} {Z : Ad}
theorem ok__law_same (T : Txt K mg Z) (n : Nat) : FnOk P w K mg base CX0 (n + 1) Z.f__law_same Z.d__law_same p__law_same (sp_same K n) := by
  induction n with
  | zero =>
    refine T.F__law_same.ok sc__law_same (fun vs H Q E h => ?_) (fun cdv Ar outer s H vs Q E hr h => ?_)
    · obtain ⟨x, y, rfl, _⟩ := h
      rfl
    · obtain ⟨x, y, rfl, hA, k⟩ := h
      have hA : AlS x y := hA
      refine ⟨_, (pss_cons (ps_if (pt_val (pe_callB (r := rIsiT K) (call_isiT) (by rfl) T.b_isinstance boot_isinstance (pa_cons (pv 1) (pa_cons (pe_tup (pa_cons (pe_bltn (v := .ty "tuple") (by rfl) T.b_tuple boot_tuple rfl) (pa_cons (pe_bltn (v := .ty "list") (by rfl) T.b_list boot_list rfl) pa_nil))) pa_nil)))) (pss_cons ps_no
      (pss_cons ps_no
      (pss_one ps_no))) pss_nil)
      (pss_cons (ps_if (pt_cmpR op_ne (pe_callB (r := rIsi K) (call_isi) (by rfl) T.b_isinstance boot_isinstance (pa_cons (pv 0) (pa_cons (pe_bltn (v := .ty "bool") (by rfl) T.b_bool boot_bool rfl) pa_nil))) (pe_callB (r := rIsi K) (call_isi) (by rfl) T.b_isinstance boot_isinstance (pa_cons (pv 1) (pa_cons (pe_bltn (v := .ty "bool") (by rfl) T.b_bool boot_bool rfl) pa_nil))) (nomark _)) (pss_one (ps_ret pe_bl)) pss_nil)
      (pss_one (ps_ret (pe_and (pe_cmpR op_eq (pe_callB (r := rIsi K) (call_isi) (by rfl) T.b_isinstance boot_isinstance (pa_cons (pv 0) (pa_cons (pe_bltn (v := .ty "int") (by rfl) T.b_int boot_int rfl) pa_nil))) (pe_callB (r := rIsi K) (call_isi) (by rfl) T.b_isinstance boot_isinstance (pa_cons (pv 1) (pa_cons (pe_bltn (v := .ty "int") (by rfl) T.b_int boot_int rfl) pa_nil))) (nomark _)) (pe_one (pe_cmpR op_eq (pv 0) (pv 1) (nomark _)))))))), ?_⟩
      rcases hA with ⟨i, rfl, rfl⟩ | ⟨rfl, rfl⟩
      · have ty : ∀ {G : Hp}, Tyn K G (.int i) "int" := .inl ⟨i, rfl, rfl⟩
        refine q_when (b := false) (et_B (ev_isiT (n := "int") (r1 := false) (r2 := false) (ev_var rfl) ty (by decide +kernel) (by decide +kernel))) (fun hb => nomatch hb) fun _ H1 e1 => ?_
        refine q_when (b := false) (et_test (ev_is (ev_op (ev_isi (n := "int") (m := "bool") (r := false) (ev_var rfl) ty (by decide +kernel)) (ev_isi (n := "int") (m := "bool") (r := false) (ev_var rfl) ty (by decide +kernel)) (rv_ne rfl)) (by simp))) (fun hb => nomatch hb) fun _ H2 e2 => ?_
        exact s_ret (v := .bl true) (ev_andV (a := true) (b := true) (ev_is (ev_op (ev_isi (n := "int") (m := "int") (r := true) (ev_var rfl) ty (by decide +kernel)) (ev_isi (n := "int") (m := "int") (r := true) (ev_var rfl) ty (by decide +kernel)) (rv_eq rfl)) (by simp)) fun _ => ev_is (ev_op (ev_var rfl) (ev_var rfl) (rv_eq rfl)) (by simp)) fun H3 e3 => k H3 ((e1.trans e2).trans e3)
      · have ty : ∀ {G : Hp}, Tyn K G .non "NoneType" := .inr (.inl ⟨rfl, rfl⟩)
        refine q_when (b := false) (et_B (ev_isiT (n := "NoneType") (r1 := false) (r2 := false) (ev_var rfl) ty (by decide +kernel) (by decide +kernel))) (fun hb => nomatch hb) fun _ H1 e1 => ?_
        refine q_when (b := false) (et_test (ev_is (ev_op (ev_isi (n := "NoneType") (m := "bool") (r := false) (ev_var rfl) ty (by decide +kernel)) (ev_isi (n := "NoneType") (m := "bool") (r := false) (ev_var rfl) ty (by decide +kernel)) (rv_ne rfl)) (by simp))) (fun hb => nomatch hb) fun _ H2 e2 => ?_
        exact s_ret (v := .bl true) (ev_andV (a := true) (b := true) (ev_is (ev_op (ev_isi (n := "NoneType") (m := "int") (r := false) (ev_var rfl) ty (by decide +kernel)) (ev_isi (n := "NoneType") (m := "int") (r := false) (ev_var rfl) ty (by decide +kernel)) (rv_eq rfl)) (by simp)) fun _ => ev_is (ev_op (ev_var rfl) (ev_var rfl) (rv_eq rfl)) (by simp)) fun H3 e3 => k H3 ((e1.trans e2).trans e3)
  | succ n ih =>
    refine T.F__law_same.ok sc__law_same (fun vs H Q E h => ?_) (fun cdv Ar outer s H vs Q E hr h => ?_)
    · obtain ⟨x, y, rfl, _⟩ := h
      rfl
    · obtain ⟨x, y, rfl, hA, k⟩ := h
      rcases hA with hA | ⟨a, b, xs, ys, rfl, rfl, hS, hl, hz, hA⟩
      · refine ⟨_, (pss_cons (ps_if (pt_val (pe_callB (r := rIsiT K) (call_isiT) (by rfl) T.b_isinstance boot_isinstance (pa_cons (pv 1) (pa_cons (pe_tup (pa_cons (pe_bltn (v := .ty "tuple") (by rfl) T.b_tuple boot_tuple rfl) (pa_cons (pe_bltn (v := .ty "list") (by rfl) T.b_list boot_list rfl) pa_nil))) pa_nil)))) (pss_cons ps_no
      (pss_cons ps_no
      (pss_one ps_no))) pss_nil)
      (pss_cons (ps_if (pt_cmpR op_ne (pe_callB (r := rIsi K) (call_isi) (by rfl) T.b_isinstance boot_isinstance (pa_cons (pv 0) (pa_cons (pe_bltn (v := .ty "bool") (by rfl) T.b_bool boot_bool rfl) pa_nil))) (pe_callB (r := rIsi K) (call_isi) (by rfl) T.b_isinstance boot_isinstance (pa_cons (pv 1) (pa_cons (pe_bltn (v := .ty "bool") (by rfl) T.b_bool boot_bool rfl) pa_nil))) (nomark _)) (pss_one (ps_ret pe_bl)) pss_nil)
      (pss_one (ps_ret (pe_and (pe_cmpR op_eq (pe_callB (r := rIsi K) (call_isi) (by rfl) T.b_isinstance boot_isinstance (pa_cons (pv 0) (pa_cons (pe_bltn (v := .ty "int") (by rfl) T.b_int boot_int rfl) pa_nil))) (pe_callB (r := rIsi K) (call_isi) (by rfl) T.b_isinstance boot_isinstance (pa_cons (pv 1) (pa_cons (pe_bltn (v := .ty "int") (by rfl) T.b_int boot_int rfl) pa_nil))) (nomark _)) (pe_one (pe_cmpR op_eq (pv 0) (pv 1) (nomark _)))))))), ?_⟩
        rcases hA with ⟨i, rfl, rfl⟩ | ⟨rfl, rfl⟩
        · have ty : ∀ {G : Hp}, Tyn K G (.int i) "int" := .inl ⟨i, rfl, rfl⟩
          refine q_when (b := false) (et_B (ev_isiT (n := "int") (r1 := false) (r2 := false) (ev_var rfl) ty (by decide +kernel) (by decide +kernel))) (fun hb => nomatch hb) fun _ H1 e1 => ?_
          refine q_when (b := false) (et_test (ev_is (ev_op (ev_isi (n := "int") (m := "bool") (r := false) (ev_var rfl) ty (by decide +kernel)) (ev_isi (n := "int") (m := "bool") (r := false) (ev_var rfl) ty (by decide +kernel)) (rv_ne rfl)) (by simp))) (fun hb => nomatch hb) fun _ H2 e2 => ?_
          exact s_ret (v := .bl true) (ev_andV (a := true) (b := true) (ev_is (ev_op (ev_isi (n := "int") (m := "int") (r := true) (ev_var rfl) ty (by decide +kernel)) (ev_isi (n := "int") (m := "int") (r := true) (ev_var rfl) ty (by decide +kernel)) (rv_eq rfl)) (by simp)) fun _ => ev_is (ev_op (ev_var rfl) (ev_var rfl) (rv_eq rfl)) (by simp)) fun H3 e3 => k H3 ((e1.trans e2).trans e3)
        · have ty : ∀ {G : Hp}, Tyn K G .non "NoneType" := .inr (.inl ⟨rfl, rfl⟩)
          refine q_when (b := false) (et_B (ev_isiT (n := "NoneType") (r1 := false) (r2 := false) (ev_var rfl) ty (by decide +kernel) (by decide +kernel))) (fun hb => nomatch hb) fun _ H1 e1 => ?_
          refine q_when (b := false) (et_test (ev_is (ev_op (ev_isi (n := "NoneType") (m := "bool") (r := false) (ev_var rfl) ty (by decide +kernel)) (ev_isi (n := "NoneType") (m := "bool") (r := false) (ev_var rfl) ty (by decide +kernel)) (rv_ne rfl)) (by simp))) (fun hb => nomatch hb) fun _ H2 e2 => ?_
          exact s_ret (v := .bl true) (ev_andV (a := true) (b := true) (ev_is (ev_op (ev_isi (n := "NoneType") (m := "int") (r := false) (ev_var rfl) ty (by decide +kernel)) (ev_isi (n := "NoneType") (m := "int") (r := false) (ev_var rfl) ty (by decide +kernel)) (rv_eq rfl)) (by simp)) fun _ => ev_is (ev_op (ev_var rfl) (ev_var rfl) (rv_eq rfl)) (by simp)) fun H3 e3 => k H3 ((e1.trans e2).trans e3)
      · have hln : ((ys.length : Nat) : Int) = (xs.length : Int) := by omega
        rcases hS with ⟨ha, hb⟩ | ⟨ha, hb⟩
        · have tx : Tyn K H (.ref a) "tuple" := .inr (.inr (.inl ⟨a, xs, rfl, ha, rfl⟩))
          have ty : Tyn K H (.ref b) "tuple" := .inr (.inr (.inl ⟨b, ys, rfl, hb, rfl⟩))
          refine ⟨_, (pss_cons (ps_if (pt_val (pe_callB (r := rIsiT K) (call_isiT) (by rfl) T.b_isinstance boot_isinstance (pa_cons (pv 1) (pa_cons (pe_tup (pa_cons (pe_bltn (v := .ty "tuple") (by rfl) T.b_tuple boot_tuple rfl) (pa_cons (pe_bltn (v := .ty "list") (by rfl) T.b_list boot_list rfl) pa_nil))) pa_nil)))) (pss_cons (ps_if (PW.pt (pw_or (pt_not (pt_val (pe_callB (r := rIsiT K) (call_isiT) (by rfl) T.b_isinstance boot_isinstance (pa_cons (pv 0) (pa_cons (pe_tup (pa_cons (pe_bltn (v := .ty "tuple") (by rfl) T.b_tuple boot_tuple rfl) (pa_cons (pe_bltn (v := .ty "list") (by rfl) T.b_list boot_list rfl) pa_nil))) pa_nil))))) (pw_or1 (pt_cmpR op_ne (pe_callB (r := rIsi K) (call_isi) (by rfl) T.b_isinstance boot_isinstance (pa_cons (pv 0) (pa_cons (pe_bltn (v := .ty "list") (by rfl) T.b_list boot_list rfl) pa_nil))) (pe_callB (r := rIsi K) (call_isi) (by rfl) T.b_isinstance boot_isinstance (pa_cons (pv 1) (pa_cons (pe_bltn (v := .ty "list") (by rfl) T.b_list boot_list rfl) pa_nil))) (nomark _))))) (pss_one (ps_ret pe_bl)) pss_nil)
      (pss_cons (ps_if (pt_cmpR op_ne (pe_callB (r := rLenS K) (call_len_seq) (by rfl) T.b_len boot_len (pa_cons (pv 0) pa_nil)) (pe_callB (r := rLenS K) (call_len_seq) (by rfl) T.b_len boot_len (pa_cons (pv 1) pa_nil)) (nomark _)) (pss_one (ps_ret pe_bl)) pss_nil)
      (pss_one (ps_ret (pe_cmpR (op_eqD hr.units) (pe_lc (own := [("_law_k", 2)]) rfl sc__law_same.nd (pi_range1 (by rfl) T.b_range (pa_cons (pe_callB (r := rLenS K) (call_len_seq) (by rfl) T.b_len boot_len (pa_cons (pv 1) pa_nil)) pa_nil)) (blkOk_by (own := [("_law_k", 2)]) (N := n__law_same) (sc := defScope s__law_same) (scope := { kind := PySem.ScopeKind.function, names := [ (PySem.Str.ofString ".0", PySem.NameKind.local), (PySem.Str.ofString "_law_k", PySem.NameKind.local), (PySem.Str.ofString "_law_same", PySem.NameKind.globalImplicit), (PySem.Str.ofString "_law_expected", PySem.NameKind.free), (PySem.Str.ofString "_law_result", PySem.NameKind.free)], isGenerator := false, isCoroutine := false, more := [] : PySem.Scope }) (by decide +kernel)) (fun _ _ _ _ _ => (pg_name (i := 2) sc__law_same.nd rfl (Or.inl rfl))) (fun _ _ _ _ _ => (pts_one (pt_not (pt_val (pe_call ih hr (by rfl) T.g__law_same T.F__law_same.kp T.b__law_same .nil pass0 (pa_cons (pe_ix (r := rIxT K) ix_tup (pv 0) (pv 2) (fun _ _ => rfl)) (pa_cons (pe_ix (r := rIxT K) ix_tup (pv 1) (pv 2) (fun _ _ => rfl)) pa_nil))))))) (fun _ _ _ _ _ => (pv 2))) (pe_lst pa_nil) (nomark _)))))) pss_nil)
      (pss_cons ps_no
      (pss_one ps_no))), ?_⟩
          refine q_when (b := true) (et_B (ev_isiT (n := "tuple") (r1 := true) (r2 := false) (ev_var rfl) ty (by decide +kernel) (by decide +kernel))) (fun _ H2 e2 => ?_) (fun hb => nomatch hb)
          refine q_when (b := false) (et_or (a := false) (b := false) (et_not (a := true) (et_B (ev_isiT (n := "tuple") (r1 := true) (r2 := false) (ev_var rfl) (tx.mono e2) (by decide +kernel) (by decide +kernel)))) fun _ => et_test (ev_is (ev_op (ev_isi (n := "tuple") (m := "list") (r := false) (ev_var rfl) (tx.mono e2) (by decide +kernel)) (ev_isi (n := "tuple") (m := "list") (r := false) (ev_var rfl) (ty.mono e2) (by decide +kernel)) (rv_ne rfl)) (by simp))) (fun hb => nomatch hb) fun _ H3 e3 => ?_
          have e13 := e2.trans e3
          refine q_when (b := false) (et_test (ev_is (ev_op (ev_lenT (ev_var rfl) (ex_t e13 ha)) (Ev.int_eq (ev_lenT (ev_var rfl) (ex_t e13 hb)) hln) (rv_ne rfl)) (by simp))) (fun hb => nomatch hb) fun _ H4 e4 => ?_
          have e14 := e13.trans e4
          refine s_ret (v := .bl true) (ev_eqNil (xs := given (ys.length : Int).toNat (fun _ => false) (fun i => .int (i : Int))) (el_lcR1 (n := (ys.length : Int)) (fun _ => false) _ (ea_cons (ev_lenT (ev_var rfl) (ex_t e14 hb)) ea_nil) ⟨by omega, by omega⟩ (fun _ => rfl) (fun i G e5 hi => ?_) (fun _ _ _ _ hf => nomatch hf)) (el_lst ea_nil (by show 0 ≤ 100000; decide)) (given_none fun _ _ => rfl)) fun H5 e5 => k H5 (e14.trans e5)
          have hx : (i : Nat) < xs.length := by omega
          have hy : (i : Nat) < ys.length := by omega
          refine et_not (a := true) (et_B (ev_call (vs := [xs[i], ys[i]]) (ea_cons (ev_ixT (ev_var rfl) (ex_t (e14.trans e5) ha) (ev_var rfl) (atI_nat (by simp))) (ea_cons (ev_ixT (ev_var rfl) (ex_t (e14.trans e5) hb) (ev_var rfl) (atI_nat (by simp))) ea_nil)) (spv_same ?_)))
          exact (hA i _ _ (by simp) (by simp)).mono (e14.trans e5)
        · have tx : Tyn K H (.ref a) "list" := .inr (.inr (.inr ⟨a, xs, rfl, ha, rfl⟩))
          have ty : Tyn K H (.ref b) "list" := .inr (.inr (.inr ⟨b, ys, rfl, hb, rfl⟩))
          refine ⟨_, (pss_cons (ps_if (pt_val (pe_callB (r := rIsiT K) (call_isiT) (by rfl) T.b_isinstance boot_isinstance (pa_cons (pv 1) (pa_cons (pe_tup (pa_cons (pe_bltn (v := .ty "tuple") (by rfl) T.b_tuple boot_tuple rfl) (pa_cons (pe_bltn (v := .ty "list") (by rfl) T.b_list boot_list rfl) pa_nil))) pa_nil)))) (pss_cons (ps_if (PW.pt (pw_or (pt_not (pt_val (pe_callB (r := rIsiT K) (call_isiT) (by rfl) T.b_isinstance boot_isinstance (pa_cons (pv 0) (pa_cons (pe_tup (pa_cons (pe_bltn (v := .ty "tuple") (by rfl) T.b_tuple boot_tuple rfl) (pa_cons (pe_bltn (v := .ty "list") (by rfl) T.b_list boot_list rfl) pa_nil))) pa_nil))))) (pw_or1 (pt_cmpR op_ne (pe_callB (r := rIsi K) (call_isi) (by rfl) T.b_isinstance boot_isinstance (pa_cons (pv 0) (pa_cons (pe_bltn (v := .ty "list") (by rfl) T.b_list boot_list rfl) pa_nil))) (pe_callB (r := rIsi K) (call_isi) (by rfl) T.b_isinstance boot_isinstance (pa_cons (pv 1) (pa_cons (pe_bltn (v := .ty "list") (by rfl) T.b_list boot_list rfl) pa_nil))) (nomark _))))) (pss_one (ps_ret pe_bl)) pss_nil)
      (pss_cons (ps_if (pt_cmpR op_ne (pe_callB (r := rLenS K) (call_len_seq) (by rfl) T.b_len boot_len (pa_cons (pv 0) pa_nil)) (pe_callB (r := rLenS K) (call_len_seq) (by rfl) T.b_len boot_len (pa_cons (pv 1) pa_nil)) (nomark _)) (pss_one (ps_ret pe_bl)) pss_nil)
      (pss_one (ps_ret (pe_cmpR (op_eqD hr.units) (pe_lc (own := [("_law_k", 2)]) rfl sc__law_same.nd (pi_range1 (by rfl) T.b_range (pa_cons (pe_callB (r := rLenS K) (call_len_seq) (by rfl) T.b_len boot_len (pa_cons (pv 1) pa_nil)) pa_nil)) (blkOk_by (own := [("_law_k", 2)]) (N := n__law_same) (sc := defScope s__law_same) (scope := { kind := PySem.ScopeKind.function, names := [ (PySem.Str.ofString ".0", PySem.NameKind.local), (PySem.Str.ofString "_law_k", PySem.NameKind.local), (PySem.Str.ofString "_law_same", PySem.NameKind.globalImplicit), (PySem.Str.ofString "_law_expected", PySem.NameKind.free), (PySem.Str.ofString "_law_result", PySem.NameKind.free)], isGenerator := false, isCoroutine := false, more := [] : PySem.Scope }) (by decide +kernel)) (fun _ _ _ _ _ => (pg_name (i := 2) sc__law_same.nd rfl (Or.inl rfl))) (fun _ _ _ _ _ => (pts_one (pt_not (pt_val (pe_call ih hr (by rfl) T.g__law_same T.F__law_same.kp T.b__law_same .nil pass0 (pa_cons (pe_ix (r := rIxL K) ix_list (pv 0) (pv 2) (fun _ _ => rfl)) (pa_cons (pe_ix (r := rIxL K) ix_list (pv 1) (pv 2) (fun _ _ => rfl)) pa_nil))))))) (fun _ _ _ _ _ => (pv 2))) (pe_lst pa_nil) (nomark _)))))) pss_nil)
      (pss_cons ps_no
      (pss_one ps_no))), ?_⟩
          refine q_when (b := true) (et_B (ev_isiT (n := "list") (r1 := false) (r2 := true) (ev_var rfl) ty (by decide +kernel) (by decide +kernel))) (fun _ H2 e2 => ?_) (fun hb => nomatch hb)
          refine q_when (b := false) (et_or (a := false) (b := false) (et_not (a := true) (et_B (ev_isiT (n := "list") (r1 := false) (r2 := true) (ev_var rfl) (tx.mono e2) (by decide +kernel) (by decide +kernel)))) fun _ => et_test (ev_is (ev_op (ev_isi (n := "list") (m := "list") (r := true) (ev_var rfl) (tx.mono e2) (by decide +kernel)) (ev_isi (n := "list") (m := "list") (r := true) (ev_var rfl) (ty.mono e2) (by decide +kernel)) (rv_ne rfl)) (by simp))) (fun hb => nomatch hb) fun _ H3 e3 => ?_
          have e13 := e2.trans e3
          refine q_when (b := false) (et_test (ev_is (ev_op (ev_len (ev_var rfl) (ex_l e13 ha)) (Ev.int_eq (ev_len (ev_var rfl) (ex_l e13 hb)) hln) (rv_ne rfl)) (by simp))) (fun hb => nomatch hb) fun _ H4 e4 => ?_
          have e14 := e13.trans e4
          refine s_ret (v := .bl true) (ev_eqNil (xs := given (ys.length : Int).toNat (fun _ => false) (fun i => .int (i : Int))) (el_lcR1 (n := (ys.length : Int)) (fun _ => false) _ (ea_cons (ev_len (ev_var rfl) (ex_l e14 hb)) ea_nil) ⟨by omega, by omega⟩ (fun _ => rfl) (fun i G e5 hi => ?_) (fun _ _ _ _ hf => nomatch hf)) (el_lst ea_nil (by show 0 ≤ 100000; decide)) (given_none fun _ _ => rfl)) fun H5 e5 => k H5 (e14.trans e5)
          have hx : (i : Nat) < xs.length := by omega
          have hy : (i : Nat) < ys.length := by omega
          refine et_not (a := true) (et_B (ev_call (vs := [xs[i], ys[i]]) (ea_cons (ev_ixL (ev_var rfl) (ex_l (e14.trans e5) ha) (ev_var rfl) (atI_nat (by simp))) (ea_cons (ev_ixL (ev_var rfl) (ex_l (e14.trans e5) hb) (ev_var rfl) (atI_nat (by simp))) ea_nil)) (spv_same ?_)))
          exact (hA i _ _ (by simp) (by simp)).mono (e14.trans e5)
section
variable {σ : L2.St} {H : Hp} {ta tb tc : TE} {p q : Addr} {ns : List Int}
theorem et_chain {i j k : Int} {f g : Int → Int → Bool} (ha : Ev ta σ H (.int i)) (hb : Ev tb σ H (.int j)) (hc : Ev tc σ H (.int k)) : EvT (tTest (tChain (rI0 fun i j => .bl (f i j)) (rI0 fun i j => .bl (g i j)) ta tb tc)) σ H (f i j && g j k) := et_test (fun H1 e Q q =>
  ha H1 e _ fun H2 e2 => hb H2 (e.trans e2) _ fun H3 e3 => ⟨i, j, rfl, rfl, f i j, rfl, by
    cases hf : f i j with
    | true => exact hc H3 ((e.trans e2).trans e3) _ fun H4 e4 => ⟨j, k, rfl, rfl, by rw [hf] at q; exact q H4 ((e2.trans e3).trans e4)⟩
    | false => rw [hf] at q; exact q H3 (e2.trans e3)⟩)
theorem alk_ref {n : Nat} {G : Hp} (h1 : SqT K G p (ns.map V.int)) (h2 : SqT K G q (ns.map V.int)) (hl : ns.length ≤ 1000) : Alk K G (n + 1) (.ref p) (.ref q) :=
  .inr ⟨p, q, _, _, rfl, rfl, .inl ⟨h1, h2⟩, rfl, by rw [List.length_map]; exact hl, fun j u v hu hv => by
    have e : u = v := Option.some.inj (hu.symm.trans hv)
    subst e
    obtain ⟨rfl, _⟩ := at_map hu
    cases n with
    | zero => exact .inl ⟨_, rfl, rfl⟩
    | succ n => exact .inl (.inl ⟨_, rfl, rfl⟩)⟩
end
end Sw
namespace Sw
open PySem PySem.Spec PyProof.Rows L2 Evl LamX NdefX
local macro_rules | `(tactic| walk_at "ev") => `(tactic| first
  | exact ev_c
  | exact ev_var rfl
  | ((with_reducible show Ev (tCB rMax2 _) _ _ _); exact ev_maxi (by walk_at "ev") (by walk_at "ev"))
  | ((with_reducible show Ev (tCB rMn _) _ _ _); exact ev_min2 (by walk_at "ev") (by walk_at "ev"))
  | ((with_reducible show Ev (tUn _ _) _ _ _); exact ev_un (by walk_at "ev") ru_neg)
  | ((with_reducible show Ev (tFld _ _ _) _ _ _); exact ev_fldK (by walk_at "ev") (by assumption))
  | ((with_reducible show Ev (tOp (rI0 _) _ _) _ _ _); exact ev_op (by walk_at "ev") (by walk_at "ev") rv_I0)
  | ((with_reducible show Ev (tOp rEq _ _) _ _ _); exact ev_op (by walk_at "ev") (by walk_at "ev") (rv_eq rfl))
  | ((with_reducible show Ev (tOp rNe _ _) _ _ _); exact ev_op (by walk_at "ev") (by walk_at "ev") (rv_ne rfl)))

/-! ### outcomes: a call that raises -/
section
variable {K : PySem.W.Frag} {J : It} {n : Nat} {G : Hp → Prop} {Y : Nat → Hp → V → Hp → Prop}
theorem lcF_it (w : Walk J n G Y) {g : TG} {te : TE} {vs : List Nat} {σ : L2.St} {H1 : Hp} {D : Addr} {Qd : Hp → Prop} (Pv : Nat → Hp → Prop) (h0 : Pv 0 (upd H1 D (.lst []))) (hG : ∀ i H, i ≤ n → Pv i H → G H)
    (hs : ∀ i x H H', i < n → Pv i H → Y i H x H' → g x (wipe σ vs) H' fun σ2 H2 => wipe σ2 vs = wipe σ vs ∧ te σ2 H2 fun y H4 => ∃ acc, H4 D = some (.lst acc) ∧ acc.length < sizeLine ∧ Pv (i + 1) (upd H4 D (.lst (acc ++ [y])))) (hd : ∀ H, Pv n H → Qd H) :
    ∃ W : Nat → Nat → Hp → Prop, (∃ m, W 0 m (upd H1 D (.lst []))) ∧ ∀ i m H, W i m H →
      (J.stop i H ∧ Qd H) ∨ (J.go i H ∧ ∃ Nx : Hp → Prop, (∀ H', Nx H' → ∃ m', m' < m ∧ W (i + 1) m' H') ∧ ∀ x H', J.yld i H x H' → g x (wipe σ vs) H' fun σ2 H2 => wipe σ2 vs = wipe σ vs ∧
        te σ2 H2 fun y H4 => ∃ acc, H4 D = some (.lst acc) ∧ acc.length < sizeLine ∧ Nx (upd H4 D (.lst (acc ++ [y])))) := by
  refine ⟨fun i m H => m = n - i ∧ i ≤ n ∧ Pv i H, ⟨n, by simp, Nat.zero_le _, h0⟩, ?_⟩
  rintro i m H ⟨rfl, hi, p⟩
  have q := hG i H hi p
  by_cases hlt : i < n
  · exact .inr ⟨w.goes i H hlt q, Pv (i + 1), fun H' p' => ⟨n - (i + 1), by omega, rfl, hlt, p'⟩, fun x H' y => hs i x H H' hlt p (w.yields i H x H' hlt q y)⟩
  · have e : i = n := by omega
    subst e
    exact .inl ⟨w.stops H q, hd H p⟩
theorem mix_over {Cl : Addr → Prop} {H H3 : Hp} (e : Ex (wn H Cl) H3) : Ex H (mixN Cl H H3) := fun b o q => by
  by_cases n : Cl b
  · rw [mix_in n]; exact q
  · rw [mix_ni n]; exact e b o ((wn_ni n).trans q)
theorem cl_none {X : Cx} {σ : L2.St} {H Hz : Hp} {N : Addr → Prop} {scope : Scope} (z : Frz X σ H Hz N) (hfree : ∀ y ∈ scope.names, y.2 = .free → X.env.scope.names.lookup y.1 = some .cell ∨ X.env.scope.names.lookup y.1 = some .free) : ∀ y c, (cloFrom X.env.cells scope.names []).lookup y = some c → H c = none := fun y c e =>
  z.off c ((z.iff c).mpr ⟨y, clo_cm (fun y hy e => z.has y.1 (hfree y hy e)) e⟩)
end
variable {P : Program} {w : World} {K : PySem.W.Frag} {mg : Str → Option Value} {base : Heap} {Z : Ad}
def NumR (Z : Ad) (Q : VK) : XK := fun cls d H1 => cls = .ref Z.c_InvalidNumber ∧ d = none ∧ ∀ p H2, H1 p = none → Ex H1 H2 → H2 p = some (.tup [.str "InvalidNumber"]) → Q (.ref p) H2
def sp_out (P : Program) (w : World) (K : PySem.W.Frag) (mg : Str → Option Value) (base : Heap) (Z : Ad) : Sp := fun vs H Q _ => ∃ (f : Addr) (sp : Sp) (S : Hp), vs = [.ref f] ∧ Cal P w K mg base (L2.CX P w) 9 f sp S ∧ Ex S H ∧
  ∀ (Q1 : VK) (E1 : XK), (∀ v H1, Q v H1 → Q1 v H1) → (∀ cls d H1, NumR Z Q cls d H1 → E1 cls d H1) → sp [] H Q1 E1
theorem ok__law_outcome (T : Txt K mg Z) : FnOk P w K mg base CX0 10 Z.f__law_outcome Z.d__law_outcome p__law_outcome (sp_out P w K mg base Z) := by
  refine T.F__law_outcome.ok sc__law_outcome (fun vs H Q E h => ?_) (fun cdv Ar outer s H vs Q E hr h => ?_)
  · obtain ⟨f, sp, S, rfl, _⟩ := h
    rfl
  · obtain ⟨f, sp, S, rfl, C, eS, q⟩ := h
    refine ⟨_, (pss_one (ps_try_only (Wout := fun _ _ _ _ => False) rfl rfl ⟨rfl, by decide, Or.inl T.g_InvalidNumber⟩ L2.takes0 (by exact (fun W pn xe tk _ => (pss_one (ps_ret (pe_calS (CX := L2.CX P w) (i := 0) (k := 9) P w K mg base rfl rfl rfl rfl rfl hr (by decide) (fun σ => passAt tk σ) rfl (by first | exact Or.inl rfl | exact Or.inr (Or.inl rfl) | exact Or.inr (Or.inr rfl))))))) (by exact (fun a oe cls d pn hz hf => (pss_one (ps_ret (pe_tup (pa_cons pe_str pa_nil)))))))), ?_⟩
    refine ⟨f, sp, S, rfl, C, eS, q _ _ ?_ ?_⟩
    · intro v H1 h
      exact h
    rintro cls d H1 ⟨rfl, rfl, h⟩
    refine ⟨true, T.xn_InvalidNumber_InvalidNumber, fun _ a na => ?_, fun z => nomatch z⟩
    exact s_retU (xs := [.str "InvalidNumber"]) (eu_tup (ea_cons ev_c ea_nil) (by show 1 ≤ 100000; decide)) fun p H2 hp e2 h2 => h p H2 hp e2 h2
/-- what a call that is out of range does -/
def sp_rN (Z : Ad) : Sp := fun vs H _ E => vs = [] ∧ ∀ H', Ex H H' → E (.ref Z.c_InvalidNumber) none H'
theorem rN_mix {H : Hp} {E : XK} {Cl : Addr → Prop} (r : ∀ H', Ex H H' → E (.ref Z.c_InvalidNumber) none H') : ∀ H3, Ex (wn H Cl) H3 → (fun c d H3 => (∀ b, Cl b → H3 b = none) → E c d (mixN Cl H H3)) (.ref Z.c_InvalidNumber) none H3 := fun H3 e _ => r _ (mix_over e)
abbrev dIN : PyData := .tuple [.str "InvalidNumber"]
theorem s_outs {X : Cx} {σ : L2.St} {H : Hp} {tw : TE} {q f1 f2 f3 : Addr} {E : XK} {j : Nat} {tu : TS} {D : Ends} (hw : Ev tw σ H (.ref q)) (hq : SqL K H q [.ref f1, .ref f2, .ref f3]) (hwp : ∀ x, wipe ((wipe σ [j]).set j (some x)) [j] = wipe σ [j]) (hsl : ∀ x, ((wipe σ [j]).set j (some x))[j]? = some (some x))
    (hc : ∀ H1, Ex H H1 → ∀ Hz N, Frz X σ H1 Hz N → ∀ f, f = f1 ∨ f = f2 ∨ f = f3 → Cal P w K mg base (L2.CX P w) 9 f (sp_rN Z) Hz) (fin : ∀ H', Ex H H' → D.nx σ H') :
    tIfS (tTest (tOp (rNeD K) (tLcF X (iList K tw) (gName j) (tCall (sp_out P w K mg base Z) [] E (tCons (tVar j) tNil)) [j]) (tOp rRep (tLst (tCons (tTup (tCons (tC (.str "InvalidNumber")) tNil)) tNil)) (tC (.int 3))))) tu tNext D σ H := by
  refine hw H (Ex.refl _) _ fun H1 e1 => ⟨q, rfl, ⟨_, ex_l e1 hq⟩, ?_⟩
  intro Hz N fz Dl hD
  have fz0 : Ex H1 Hz := fz.ex_
  have nD : ¬ N Dl := fun z => by obtain ⟨o, v, e, _⟩ := fz.inn _ z; rw [hD] at e; cases e
  refine lcF_it (walk_list (K := K) (a := q) (xs := [.ref f1, .ref f2, .ref f3])) (fun i H' => ∃ ts : List Addr, ts.length = i ∧ Ex Hz H' ∧ H' Dl = some (.lst (ts.map V.ref)) ∧ ∀ t ∈ ts, H' t = some (.tup [.str "InvalidNumber"]))
    ⟨[], rfl, Ex.new hD, upd_same, by simp⟩ (fun i H' _ p => ex_l (fz0.trans p.choose_spec.2.1) (ex_l e1 hq)) ?_ ?_
  · rintro i x H2 H2' hi ⟨ts, hl, eZ, hL, ht⟩ ⟨ey, hx⟩
    rw [ey]
    have hx3 : ∃ f, x = .ref f ∧ (f = f1 ∨ f = f2 ∨ f = f3) := by
      match i, hx with
      | 0, hx => cases hx; exact ⟨_, rfl, .inl rfl⟩
      | 1, hx => cases hx; exact ⟨_, rfl, .inr (.inl rfl)⟩
      | 2, hx => cases hx; exact ⟨_, rfl, .inr (.inr rfl)⟩
    obtain ⟨f, rfl, hf⟩ := hx3
    refine ⟨hwp _, ?_⟩
    refine (ev_var (i := j) (hsl _)) H2 (Ex.refl _) _ fun H3 e3 => ?_
    refine ⟨f, sp_rN Z, Hz, rfl, ?_, eZ.trans e3, fun Q1 E1 q1 e1' => ⟨rfl, fun H' ex => e1' _ _ _ ⟨rfl, rfl, fun p H4 np ex2 h4 => ?_⟩⟩⟩
    · exact hc H1 e1 Hz N fz f hf
    · have e24 := (e3.trans ex).trans ex2
      have h5 := e24 _ _ hL
      have npD : p ≠ Dl := fun z => by rw [z, (e3.trans ex) _ _ hL] at np; cases np
      refine ⟨ts.map V.ref, h5, sz_lt (by rw [List.length_map, hl]; have : i < 3 := hi; omega), ts ++ [p], by rw [List.length_append, hl]; rfl, fun b o z => ?_, by rw [upd_same, List.map_append]; rfl, fun t htm => ?_⟩
      · rw [upd_ne (fun y => by rw [y, hD] at z; cases z)]; exact e24 _ _ (eZ _ _ z)
      · rcases List.mem_append.mp htm with z | z
        · have a := ht t z
          have ne : t ≠ Dl := fun y => by rw [y, hL] at a; cases a
          rw [upd_ne ne]; exact e24 _ _ a
        · rw [List.mem_singleton.mp z, upd_ne npD]; exact h4
  · rintro H2 ⟨ts, hl, eZ, hL, ht⟩
    have hl3 : ts.length = 3 := hl
    match ts, hl3, hL, ht with
    | [t1, t2, t3], _, hL, ht =>
      have go : ∀ {b : Addr} {o : HO}, H2 b = some o → (∀ u, o ≠ .frz u okT) → wn H2 N b = some o := fun {b o} e n => (wn_ni fun z => by
        obtain ⟨u, v, e', _⟩ := fz.inn _ z
        have := eZ _ _ e'
        rw [e] at this; exact n u (Option.some.inj this)).trans e
      have eH : Ex H (wn H2 N) := fun b o e => by
        have e' := e1 _ _ e
        rw [wn_ni fun z => by rw [fz.off b z] at e'; cases e']
        exact eZ _ _ (fz0 _ _ e')
      have k0 := go hL fun _ z => nomatch z
      have k1 := go (ht t1 (by simp)) fun _ z => nomatch z
      have k2 := go (ht t2 (by simp)) fun _ z => nomatch z
      have k3 := go (ht t3 (by simp)) fun _ z => nomatch z
      generalize wn H2 N = G at eH k0 k1 k2 k3
      dsimp only [tOp, tLst, tCons, tNil]
      refine (eu_tup (H := G) (σ := σ) (xs := [.str "InvalidNumber"]) (ea_cons ev_c ea_nil) (by show 1 ≤ 100000; decide)) G (Ex.refl _) _ fun p H3 np e3 h3 => ⟨sz_of (by show 1 ≤ 100000; decide), fun r hr => ?_⟩
      refine ⟨r, 3, [.ref p], rfl, rfl, upd_same, by decide, by decide, by show 1 * 3 ≤ sizeLine; decide, fun u hu => ?_⟩
      have e5 : Ex G (upd (upd H3 r (.lst [.ref p])) u (.lst (List.replicate (Int.toNat 3) [V.ref p]).flatten)) := (e3.trans (Ex.new hr)).trans (Ex.new hu)
      have hp5 : (upd (upd H3 r (.lst [.ref p])) u (.lst (List.replicate (Int.toNat 3) [V.ref p]).flatten)) p = some (.tup [.str "InvalidNumber"]) := (Ex.new (o := .lst (List.replicate (Int.toNat 3) [V.ref p]).flatten) hu) _ _ ((Ex.new (o := .lst [.ref p]) hr) _ _ h3)
      have hu5 : (upd (upd H3 r (.lst [.ref p])) u (.lst (List.replicate (Int.toNat 3) [V.ref p]).flatten)) u = some (.lst [.ref p, .ref p, .ref p]) := upd_same
      generalize upd (upd H3 r (.lst [.ref p])) u (.lst (List.replicate (Int.toNat 3) [V.ref p]).flatten) = G5 at e5 hp5 hu5
      have one : ∀ {t : Addr}, G5 t = some (.tup [.str "InvalidNumber"]) → Dp K G5 (.ref t) dIN := fun e => .tup (st_of e) (.cons (.str _) .nil)
      refine ⟨.list [dIN, dIN, dIN], .list [dIN, dIN, dIN], .lst (sq_of (e5 _ _ k0)) (.cons (one (e5 _ _ k1)) (.cons (one (e5 _ _ k2)) (.cons (one (e5 _ _ k3)) .nil))), .lst (sq_of hu5) (.cons (one hp5) (.cons (one hp5) (.cons (one hp5) .nil))), by decide +kernel, by decide +kernel, false, by decide +kernel, ?_⟩
      exact fin _ (eH.trans e5)
end Sw
namespace Sw
open PySem PySem.Spec PyProof.Rows L2 Evl LamX NdefX
local macro_rules | `(tactic| walk_at "ev") => `(tactic| first
  | exact ev_c
  | exact ev_var rfl
  | ((with_reducible show Ev (tCB rMax2 _) _ _ _); exact ev_maxi (by walk_at "ev") (by walk_at "ev"))
  | ((with_reducible show Ev (tCB rMn _) _ _ _); exact ev_min2 (by walk_at "ev") (by walk_at "ev"))
  | ((with_reducible show Ev (tUn _ _) _ _ _); exact ev_un (by walk_at "ev") ru_neg)
  | ((with_reducible show Ev (tFld _ _ _) _ _ _); exact ev_fldK (by walk_at "ev") (by assumption))
  | ((with_reducible show Ev (tOp (rI0 _) _ _) _ _ _); exact ev_op (by walk_at "ev") (by walk_at "ev") rv_I0)
  | ((with_reducible show Ev (tOp rEq _ _) _ _ _); exact ev_op (by walk_at "ev") (by walk_at "ev") (rv_eq rfl))
  | ((with_reducible show Ev (tOp rNe _ _) _ _ _); exact ev_op (by walk_at "ev") (by walk_at "ev") (rv_ne rfl)))

/-! ### what is known, carried over a lambda's making, and over a call with frozen cells -/
section
variable {K : PySem.W.Frag} {Z : Ad} {H H1 H' Hz : Hp} {a c C : Addr} {f m : Str} {v : V} {bs ds ks : List Int} {tb td tk : Addr} {gain first full : Int} {fm lm : List Int} {b h l : Addr} {life : Int} {i : Nat}
theorem flk_nt (x : FlK K H a C f v) : FlK K (nt H) a C f v := ⟨let ⟨dx, fs, e, q⟩ := x.fl; ⟨dx, fs, nt_of e (fun _ z => nomatch z), q⟩, x.cl, x.na⟩
theorem nof_nt (x : NoF H a C m) : NoF (nt H) a C m := let ⟨dx, fs, e, q⟩ := x; ⟨dx, fs, nt_of e (fun _ z => nomatch z), q⟩
theorem pr_nt (x : PR K Z H c bs ds ks tb td tk) : PR K Z (nt H) c bs ds ks tb td tk := ⟨flk_nt x.fb, nt_t x.hb, flk_nt x.fd, nt_t x.hd, flk_nt x.fk, nt_l x.hk, nof_nt x.nf, x.gd, x.kl⟩
theorem sr_nt (x : SR K Z H c bs ds ks tb td tk gain first full) : SR K Z (nt H) c bs ds ks tb td tk gain first full := ⟨pr_nt x.pr, flk_nt x.fg, flk_nt x.ff, flk_nt x.fu, nof_nt x.nf, x.gb⟩
theorem co_nt (x : CO K Z H c bs ds ks gain first full fm lm) : CO K Z (nt H) c bs ds ks gain first full fm lm :=
  ⟨let ⟨a, b, c, y⟩ := x.sr; ⟨a, b, c, sr_nt y⟩, let ⟨a, y, z⟩ := x.ffm; ⟨a, flk_nt y, nt_l z⟩, let ⟨a, y, z⟩ := x.flm; ⟨a, flk_nt y, nt_l z⟩, x.lfm, x.llm, x.slm, x.sb, x.sd, fun m hm => nof_nt (x.nf m hm)⟩
theorem bak_nt (x : BakAt K Z H b bs ds life i) : BakAt K Z (nt H) b bs ds life i :=
  ⟨let ⟨a, y, z⟩ := x.fb; ⟨a, flk_nt y, nt_t z⟩, let ⟨a, y, z⟩ := x.fd; ⟨a, flk_nt y, nt_t z⟩, flk_nt x.fl, let ⟨a, y, z⟩ := x.fc; ⟨a, flk_nt y, co_nt z⟩, flk_nt x.fs, let ⟨a, y, z⟩ := x.fr; ⟨a, flk_nt y, nt_t z⟩, x.gd, x.l0, x.l1, x.hi, fun m hm => nof_nt (x.nf m hm)⟩
theorem bak_ext (e : ExtN H H1) (x : BakAt K Z H b bs ds life i) : BakAt K Z H1 b bs ds life i := (bak_nt x).mono ((extN_nt e).trans nt_ex)
end
/-! ### frames: all but the draws' list and the tables -/
noncomputable def Fx (h l : Addr) (G : Hp) : Hp := nt (wn G (hl h l))
theorem nt_mono {H H' : Hp} (e : Ex H H') : Ex (nt H) (nt H') := fun b o q => nt_of (e b o (nt_some q).1) (nt_some q).2
section
variable {K : PySem.W.Frag} {Z : Ad} {h l : Addr} {G G' H H' : Hp} {p : Addr} {ns : List Int} {N : Addr → Prop} {v : V}
theorem fx_dr (d : Dr h l G G') : Ex (Fx h l G) (Fx h l G') := nt_mono d.ex
theorem fx_ext (e : ExtN G G') : Ex (Fx h l G) (Fx h l G') := extN_nt (extN_wn e)
theorem fx_ex (e : Ex G G') : Ex (Fx h l G) (Fx h l G') := nt_mono (wn_mono e)
theorem fx_in : Ex (Fx h l G) G := nt_ex.trans wn_ex
theorem fx_wn : Ex (Fx h l G) (wn G (hl h l)) := nt_ex
theorem hs_ext (e : ExtN G G') (q : HS G h l) : HS G' h l := let ⟨p, m, r, h1, z⟩ := q; ⟨p, m, r, e _ _ h1 (fun _ z => nomatch z), z⟩
theorem tabs_dr {T : List NTab} (hs : HS H h l) (d : Dr h l H H') (t : TabsN T H) : TabsN T H' := by
  have t1 : TabsN T (wn H (hl h l)) := fun p hp => by
    obtain ⟨ps, h1, h2, h3⟩ := t p hp
    refine ⟨ps, (wn_ni (hl_kind hs h1 fun _ z => nomatch z)).trans h1, h2, fun pos cv hc => ?_⟩
    obtain ⟨c, e1, e2⟩ := h3 pos cv hc
    exact ⟨c, e1, (wn_ni (hl_kind hs e2 fun _ z => by unfold CodeO at z; cases z)).trans e2⟩
  exact (t1.ext d.ex).ext wn_ex
theorem fx_lst {xs : List V} (hp : wn G (hl h l) p = some (.lst xs)) : SqL K (Fx h l G) p xs := sq_of (nt_of hp fun _ z => nomatch z)
theorem pri_fx (hs : HS G h l) (hp : PriAt K Z G p ns) : PriAt K Z (Fx h l G) p ns := by
  have k : ∀ {b : Addr} {o : HO}, G b = some o → (∀ ys, o ≠ .lst ys) → (∀ ps, o ≠ .tbl ps) → Fx h l G b = some o := fun e n1 n2 => nt_of ((wn_ni (hl_kind hs e n1)).trans e) n2
  obtain ⟨⟨t, a, b⟩, hl3⟩ := hp
  obtain ⟨⟨dx, fs, e, q⟩, c, na⟩ := a
  refine ⟨⟨t, ⟨⟨dx, fs, k e (fun _ z => nomatch z) (fun _ z => nomatch z), q⟩, c, na⟩, ?_⟩, hl3⟩
  rcases b with (b | ⟨u, b⟩) | b
  · exact .inl (.inl (k b (fun _ z => nomatch z) fun _ z => nomatch z))
  · exact .inl (.inr ⟨u, k b (fun _ z => nomatch z) fun _ z => nomatch z⟩)
  · exact .inr b
end
/-! ### lists of numbers -/
section
variable {K : PySem.W.Frag} {H : Hp}
theorem dp_ints : ∀ ns : List Int, DpAll K H (ns.map V.int) (ns.map PyData.int)
  | [] => .nil
  | n :: r => .cons (.int n) (dp_ints r)
theorem tup_shaped (ns : List Int) : SeqAt.shaped (.tuple (ns.map PyData.int)) = true := by
  show (PyData.canLay0 (.tuple (ns.map PyData.int)) && decide (PyData.depth (.tuple (ns.map PyData.int)) ≤ 64)) = true
  rw [Bool.and_eq_true]
  exact ⟨by simp only [PyData.canLay0, canLayAll_ints], decide_eq_true (by simp only [PyData.depth, depthAll_ints]; decide)⟩
end
theorem eqvA_dec : ∀ as bs : List Int, PyData.eqvAll (as.map PyData.int) (bs.map PyData.int) = decide (as = bs)
  | [], [] => rfl
  | [], b :: r => rfl
  | a :: r, [] => rfl
  | a :: r, b :: s => by
    show (PyData.eqv (.int a) (.int b) && PyData.eqvAll (r.map PyData.int) (s.map PyData.int)) = _
    rw [eqvA_dec r s]
    by_cases h : a = b <;> by_cases h2 : r = s <;> simp [PyData.eqv, h, h2]
theorem ints_shapedL (ns : List Int) : SeqAt.shaped (.list (ns.map PyData.int)) = true := tup_shaped ns
section
variable {K : PySem.W.Frag} {Z : Ad} {σ : L2.St} {H H' : Hp} {ta tb tx ty te : TE} {t : TA} {a b p S pb : Addr} {as bs ds : List Int} {ad : List Addr} {g f : Nat → Int} {m j : Nat} {vs : List Nat} {D : Ends} {tz : TS} {E : XK} {c x y : Int}
theorem ev_neLL (h1 : EvL ta σ H (as.map V.int)) (h2 : EvL tb σ H (bs.map V.int)) : Ev (tOp (rNeD K) ta tb) σ H (.bl (!decide (as = bs))) := fun H1 e Q k => h1 H1 e _ fun p H2 _ e2 x1 => h2 H2 (e.trans e2) _ fun q H3 _ e3 x2 =>
  ⟨_, _, .lst (sq_of (e3 _ _ x1)) (dp_ints as), .lst (sq_of x2) (dp_ints bs), ints_shapedL as, ints_shapedL bs, by
    have z : PyData.eqv (.list (as.map PyData.int)) (.list (bs.map PyData.int)) = decide (as = bs) := eqvA_dec as bs
    rw [z]; exact k H3 (e2.trans e3)⟩
theorem ev_neLN (h1 : Ev ta σ H (.ref a)) (x1 : SqL K H a (as.map V.int)) (h2 : EvL tb σ H (bs.map V.int)) : Ev (tOp (rNeD K) ta tb) σ H (.bl (!decide (as = bs))) := fun H1 e Q k => h1 H1 e _ fun H2 e2 => h2 H2 (e.trans e2) _ fun q H3 _ e3 x2 =>
  ⟨_, _, .lst (ex_l ((e.trans e2).trans e3) x1) (dp_ints as), .lst (sq_of x2) (dp_ints bs), ints_shapedL as, ints_shapedL bs, by
    have z : PyData.eqv (.list (as.map PyData.int)) (.list (bs.map PyData.int)) = decide (as = bs) := eqvA_dec as bs
    rw [z]; exact k H3 (e2.trans e3)⟩
theorem ev_eqLN (h1 : Ev ta σ H (.ref a)) (x1 : SqL K H a (as.map V.int)) (h2 : EvL tb σ H (bs.map V.int)) : Ev (tOp (rEqD K) ta tb) σ H (.bl (decide (as = bs))) := fun H1 e Q k => h1 H1 e _ fun H2 e2 => h2 H2 (e.trans e2) _ fun q H3 _ e3 x2 =>
  ⟨_, _, .lst (ex_l ((e.trans e2).trans e3) x1) (dp_ints as), .lst (sq_of x2) (dp_ints bs), ints_shapedL as, ints_shapedL bs, by
    have z : PyData.eqv (.list (as.map PyData.int)) (.list (bs.map PyData.int)) = decide (as = bs) := eqvA_dec as bs
    rw [z]; exact k H3 (e2.trans e3)⟩
/-- a comprehension over range(lo, hi, c) -/
theorem el_lcR3 {lo hi c : Int} {n : Nat} (v : Nat → V) (h : EvA t σ H [.int lo, .int hi, .int c]) (hr : RgC lo hi c n) (hn : n ≤ 10000) (hw : ∀ x, wipe ((wipe σ vs).set j (some x)) vs = wipe σ vs)
    (he : ∀ (i : Nat) H1, Ex H H1 → i < n → Ev te ((wipe σ vs).set j (some (.int (lo + (i : Int) * c)))) H1 (v i)) : EvL (tLc (iRng3 t) (gName j) tYes te vs) σ H ((List.range n).map v) := fun H0 e Q q => h H0 e _ fun H1 e1 => by
  rw [← given_all] at q
  exact ⟨lo, hi, c, n, rfl, hr, fun Dl hD => lc_it walk_rangeC (Cw H1 (fun _ => true) v Dl) ⟨hD, Ex.new hD, upd_same⟩ (fun _ _ _ _ => trivial) (fun i x H2 H2' hi p y => by
    obtain ⟨ey, ex⟩ := y
    rw [ey, ex]
    exact ⟨hw _, cw_turn p (by omega) et_yes (fun _ => he i H1 (e.trans e1) hi)⟩) (fun H' p => q Dl H' (fresh_back e1 p.1) (e1.trans p.2.1) p.2.2)⟩
/-! ### a day's statements -/
theorem q_sold (ha : Ev ta σ H (.ref S)) (hb : Ev tb σ H (.int c)) (hS : Sh H S ad g f) (hn : ad.length ≤ 1000) (c0 : 0 ≤ c) (f0 : ∀ i, 0 ≤ f i) (k : ∀ H', Ex (wn H fun b => b ∈ ad) H' → Sh H' S ad g (cutF f c) → tz D (σ.set m (some (.int (c - max 0 (c - psum f ad.length))))) H') :
    tSeq (tAsg (tCall sp_sold [] E (tCons ta (tCons tb tNil))) (gName m)) tz D σ H := ha H (Ex.refl _) _ fun H1 e1 => hb H1 e1 _ fun H2 e2 =>
  ⟨S, ad, g, f, c, rfl, hS.mono (e1.trans e2), hn, c0, f0, fun H' e3 h3 => k H' ((wn_mono (e1.trans e2)).trans e3) h3⟩
theorem q_closed {life a0 : Int} (hx : Ev tx σ H (.int x)) (hy : Ev ty σ H (.int y)) (ha : Ev ta σ H (.ref S)) (hb : Ev tb σ H (.int life)) (hS : Sh H S ad (fun i => a0 - (i : Int)) f) (hn : ad.length ≤ 1000) (hm : ∀ z, CMul y z)
    (k : ∀ (k : Nat) H', k ≤ ad.length → (∀ i, i < k → life ≤ a0 + 1 - (i : Int) ∨ f i = 0) → (k < ad.length → ¬ life ≤ a0 + 1 - (k : Int)) → Ex (wn H fun b => b = S ∨ b ∈ ad) H' → Sh H' S (ad.drop k) (fun i => a0 + 1 - (k : Int) - (i : Int)) (fun i => f (k + i)) → tz D (σ.set m (some (.int (x - y * psum f k)))) H') :
    tSeq (tAsg (tOp (rI0 fun i j => .int (i - j)) tx (tOp (rI CMul fun i j => .int (i * j)) ty (tCall sp_closed [] E (tCons ta (tCons tb tNil))))) (gName m)) tz D σ H := hx H (Ex.refl _) _ fun H1 e1 => hy H1 e1 _ fun H2 e2 => ha H2 (e1.trans e2) _ fun H3 e3 => hb H3 ((e1.trans e2).trans e3) _ fun H4 e4 => by
  have e14 := ((e1.trans e2).trans e3).trans e4
  exact ⟨S, ad, a0, f, life, rfl, hS.mono e14, hn, fun kk H' h1 h2 h3 h4 h5 => ⟨y, _, rfl, rfl, hm _, x, _, rfl, rfl, k kk H' h1 h2 h3 ((wn_mono e14).trans h4) h5⟩⟩
theorem ev_bk {t : Nat} {tm : TE} {size : Int} (ha : Ev ta σ H (.ref pb)) (hb : SqT K H pb (bs.map V.int)) (hs : (bs.length : Int) = size) (h0 : 0 < size) (h1 : Ev tm σ H (.int ((t : Int) % size))) : Ev (tOp (rIxT K) ta tm) σ H (.int (bk bs t)) := by
  have e : bk bs t = bs.getD ((t : Int) % size).toNat 0 := by
    unfold bk
    rw [← hs, (day_split t bs.length (by omega)).2]
  rw [e]
  exact ev_ixT ha hb h1 (atI_mapI (Int.emod_nonneg _ (by omega)) (by rw [hs]; exact Int.emod_lt_of_pos _ h0))
theorem ev_dm {t : Nat} {tm : TE} {size : Int} (ha : Ev ta σ H (.ref pb)) (hb : SqT K H pb (ds.map V.int)) (hd : ds.length = bs.length) (hs : (bs.length : Int) = size) (h0 : 0 < size) (h1 : Ev tm σ H (.int ((t : Int) % size))) : Ev (tOp (rIxT K) ta tm) σ H (.int (dm bs ds t)) := by
  have e : dm bs ds t = ds.getD ((t : Int) % size).toNat 0 := by
    unfold dm
    rw [← hs, (day_split t bs.length (by omega)).2]
  rw [e]
  exact ev_ixT ha hb h1 (atI_mapI (Int.emod_nonneg _ (by omega)) (by rw [hd, hs]; exact Int.emod_lt_of_pos _ h0))
end
/-! ### sums of profits -/
section
variable {ps bs ds : List Int} {life : Int}
theorem pr_zero : prT ps bs ds life 0 = 0 := by unfold prT gain psum; simp
theorem pr_step (t : Nat) : prT ps bs ds life (t + 1) = prT ps bs ds life t + (ps.getD 0 0 * solS bs ds (keepL bs life) t - ps.getD 1 0 * bk bs t - ps.getD 2 0 * thrS bs ds (keepL bs life) t) := by
  unfold prT gain
  simp only [psum]
  rw [Int.add_mul, Int.add_mul, Int.add_mul, Int.mul_comm (ps.getD 0 0), Int.mul_comm (ps.getD 1 0), Int.mul_comm (ps.getD 2 0)]
  omega
theorem pr_long (h : CoM bs ds (keepL bs life)) {a : Nat} (hD : ∀ t, a ≤ t → dayS bs ds (keepL bs life) t = dayS bs ds (keepL bs life) (t + bs.length)) (T : Nat) : prT ps bs ds life (a + T * bs.length) = prT ps bs ds life a + (T : Int) * prf0 ps bs ds life := by
  have l0 := tot_long h hD T 0
  have l2 := tot_long h hD T 2
  have n0 := h.gd.n0
  have lb : psum (bk bs) (a + T * bs.length) = psum (bk bs) a + (T : Int) * bs.sum := by
    rw [← bk_sum h, ← bk_sum h]
    unfold sumRep
    have e : (((a + T * bs.length : Nat)) : Int) = (a : Int) + (T : Int) * (bs.length : Int) := by rw [Int.natCast_add, Int.natCast_mul]
    rw [e, Int.add_mul_ediv_right _ _ (by omega), Int.add_mul_emod_self_right, Int.add_mul]
    omega
  have l0' : psum (solS bs ds (keepL bs life)) (a + T * bs.length) = psum (solS bs ds (keepL bs life)) a + (T : Int) * (ds.sum - (lmOf bs ds (keepL bs life)).sum) := l0
  have l2' : psum (thrS bs ds (keepL bs life)) (a + T * bs.length) = psum (thrS bs ds (keepL bs life)) a + (T : Int) * (bs.sum - (ds.sum - (lmOf bs ds (keepL bs life)).sum)) := l2
  unfold prT prf0 gain
  rw [l0', l2', lb]
  generalize bs.sum - (ds.sum - (lmOf bs ds (keepL bs life)).sum) = B
  generalize ds.sum - (lmOf bs ds (keepL bs life)).sum = A
  simp only [Int.add_mul, Int.mul_sub, Int.mul_assoc]
  omega
end
end Sw
namespace Sw
open PySem PySem.Spec PyProof.Rows L2 Evl LamX NdefX
local macro_rules | `(tactic| walk_at "ev") => `(tactic| first
  | exact ev_c
  | exact ev_var rfl
  | ((with_reducible show Ev (tCB rMax2 _) _ _ _); exact ev_maxi (by walk_at "ev") (by walk_at "ev"))
  | ((with_reducible show Ev (tCB rMn _) _ _ _); exact ev_min2 (by walk_at "ev") (by walk_at "ev"))
  | ((with_reducible show Ev (tUn _ _) _ _ _); exact ev_un (by walk_at "ev") ru_neg)
  | ((with_reducible show Ev (tFld _ _ _) _ _ _); exact ev_fldK (by walk_at "ev") (by assumption))
  | ((with_reducible show Ev (tOp (rI0 _) _ _) _ _ _); exact ev_op (by walk_at "ev") (by walk_at "ev") rv_I0)
  | ((with_reducible show Ev (tOp rEq _ _) _ _ _); exact ev_op (by walk_at "ev") (by walk_at "ev") (rv_eq rfl))
  | ((with_reducible show Ev (tOp rNe _ _) _ _ _); exact ev_op (by walk_at "ev") (by walk_at "ev") (rv_ne rfl)))

/-! ### statements of the law -/
section
variable {K : PySem.W.Frag} {Z : Ad} {σ : L2.St} {H H' : Hp} {tm tl ta tb tc te : TE} {h l p : Addr} {ps : List Int} {i1 i2 i3 m : Nat} {D : Ends} {tz : TS}
/-- an object, and what is drawn -/
theorem q_bakC {Pm : Addr → Hp → Prop} {A : List Int → Prop} (hs : HS H h l) (hm : EvR tm σ H (hl h l) Pm) (hx : EvX tl σ H h l (LI A))
    (k : ∀ b c ns S1 S, Dr h l H S1 → Dr h l S1 S → Pm b (wn S1 (hl h l)) → wn S (hl h l) c = some (.lst (ns.map V.int)) → A ns → tz D ((σ.set i1 (some (.ref b))).set i2 (some (.ref c))) S) :
    tSeq (tAsg (tTup (tCons tm (tCons tl tNil))) (gTup K 2 (gCons (gName i1) (gCons (gName i2) gNil)))) tz D σ H := hm H (Ex.refl _) hs.kn _ fun b S1 nb e1 hP => hx S1 (Dr.of hs e1) _ fun v S d hv => ⟨by show 2 ≤ sizeLine; decide, fun r hr => by
    obtain ⟨c, ns, rfl, hc, hA⟩ := hv
    have e2 : Ex S (L2.upd S r (.tup [.ref b, .ref c])) := Ex.new hr
    have d2 := Dr.of d.hs e2
    exact ⟨r, [.ref b, .ref c], rfl, st_of upd_same, rfl, _, _, rfl, _, _, rfl, rfl, k b c ns S1 _ (Dr.of hs e1) (d.trans d2) hP (wn_mono e2 _ _ hc) hA⟩⟩
/-- prices, a list, a list of one -/
theorem q_priC (hm : ∀ Q : VK, (∀ p H2, H p = none → Ex H H2 → PriAt K Z H2 p ps → Q (.ref p) H2) → tm σ H Q) (hx : ∀ G, EvL ta σ G []) (hy : ∀ G, EvL tb σ G [.int 0])
    (k : ∀ p H1 S q H2, Ex H H1 → PriAt K Z H1 p ps → Ex H1 H2 → H1 S = none → H1 q = none → S ≠ q → H2 S = some (.lst []) → H2 q = some (.lst [.int 0]) → tz D (((σ.set i1 (some (.ref p))).set i2 (some (.ref S))).set i3 (some (.ref q))) H2) :
    tSeq (tAsg (tTup (tCons tm (tCons ta (tCons tb tNil)))) (gTup K 3 (gCons (gName i1) (gCons (gName i2) (gCons (gName i3) gNil))))) tz D σ H := hm _ fun p H1 np e1 hP => hx H1 H1 (Ex.refl _) _ fun S H2 nS e2 hS => hy H2 H2 (Ex.refl _) _ fun q H3 nq e3 hq => ⟨by show 3 ≤ sizeLine; decide, fun r hr => by
    have e4 : Ex H3 (L2.upd H3 r (.tup [.ref p, .ref S, .ref q])) := Ex.new hr
    exact ⟨r, [.ref p, .ref S, .ref q], rfl, st_of upd_same, rfl, _, _, rfl, _, _, rfl, _, _, rfl, rfl, k p H1 S q _ e1 hP ((e2.trans e3).trans e4) nS (fresh_back e2 nq) (fun z => by rw [z, nq] at hS; cases hS) ((e3.trans e4) _ _ hS) (e4 _ _ hq)⟩⟩
/-- a lambda that stands -/
def LamS (mk : Addr → LF) (f : Addr) (H : Hp) : Prop := ∃ c, H f = some (LamO f (mk c)) ∧ H c = some (CodeO c (mk c).qual)
def LamT (mk : Addr → Addr → LF) (i : Int) (f : Addr) (H : Hp) : Prop := ∃ c t, H f = some (LamO f (mk c t)) ∧ H c = some (CodeO c (mk c t).qual) ∧ H t = some (.tup [.int i])
theorem codeO_tbl {c : Addr} {q : Str} (ps : Array Value) : CodeO c q ≠ .tbl ps := fun z => by unfold CodeO at z; cases z
theorem LamS.ext {mk : Addr → LF} {f : Addr} {G G' : Hp} (e : ExtN G G') (x : LamS mk f G) : LamS mk f G' := let ⟨c, a, b⟩ := x; ⟨c, e _ _ a lamO_tbl, e _ _ b codeO_tbl⟩
theorem LamT.ext {mk : Addr → Addr → LF} {i : Int} {f : Addr} {G G' : Hp} (e : ExtN G G') (x : LamT mk i f G) : LamT mk i f G' := let ⟨c, t, a, b, d⟩ := x; ⟨c, t, e _ _ a lamO_tbl, e _ _ b codeO_tbl, e _ _ d fun _ z => nomatch z⟩
theorem ExtN.tr {G G' G'' : Hp} (a : ExtN G G') (b : ExtN G' G'') : ExtN G G'' := fun x o e n => b _ _ (a _ _ e n) n
theorem q_works {T : List NTab} {mk1 : Addr → LF} {mk2 : Addr → Addr → LF} {i : Int} (hT : TabsN T H) (k : ∀ f1 f2 p H', ExtN H H' → TabsN T H' → LamS mk1 f1 H' → LamT mk2 i f2 H' → H' p = some (.lst [.ref f1, .ref f2]) → tz D (σ.set m (some (.ref p))) H') :
    tSeq (tAsg (tLst (tCons (tLamE T mk1) (tCons (tLamD T mk2 i) tNil))) (gName m)) tz D σ H :=
  ⟨hT, fun f1 c1 H1 e1 _ T1 _ a1 b1 => ⟨T1, fun f2 c2 t2 H2 e2 _ T2 _ a2 b2 d2 => ⟨by show 2 ≤ sizeLine; decide, fun p hp => by
    have e3 : Ex H2 (L2.upd H2 p (.lst [.ref f1, .ref f2])) := Ex.new hp
    have e23 := ExtN.tr e2 (extN_of e3)
    exact k f1 f2 p _ (ExtN.tr e1 e23) (T2.ext e3) (LamS.ext e23 ⟨c1, a1, b1⟩) (LamT.ext (extN_of e3) ⟨c2, t2, a2, b2, d2⟩) upd_same⟩⟩⟩
theorem q_works2 {T : List NTab} {mk3 : Addr → Addr → LF} {i : Int} {f1 f2 q : Addr} (hT : TabsN T H) (hw : Ev ta σ H (.ref q)) (hq : H q = some (.lst [.ref f1, .ref f2])) (k : ∀ f3 p H', ExtN H H' → TabsN T H' → LamT mk3 i f3 H' → H' p = some (.lst [.ref f1, .ref f2, .ref f3]) → tz D (σ.set m (some (.ref p))) H') :
    tSeq (tAsg (tOp rCat ta (tLst (tCons (tLamD T mk3 i) tNil))) (gName m)) tz D σ H := hw H (Ex.refl _) _ fun H0 e0 =>
  ⟨hT.ext e0, fun f3 c3 t3 H2 e2 _ T2 _ a3 b3 d3 => ⟨by show 1 ≤ sizeLine; decide, fun p hp => by
    have e3 : Ex H2 (L2.upd H2 p (.lst [.ref f3])) := Ex.new hp
    have hq2 : H2 q = some (.lst [.ref f1, .ref f2]) := e2 _ _ (e0 _ _ hq) fun _ z => nomatch z
    refine ⟨q, p, [.ref f1, .ref f2], [.ref f3], rfl, rfl, e3 _ _ hq2, upd_same, by show 2 + 1 ≤ sizeLine; decide, fun r hr => ?_⟩
    have e4 : Ex (L2.upd H2 p (.lst [.ref f3])) (L2.upd (L2.upd H2 p (.lst [.ref f3])) r (.lst [.ref f1, .ref f2, .ref f3])) := Ex.new hr
    exact k f3 r _ (ExtN.tr (extN_of e0) (ExtN.tr e2 (extN_of (e3.trans e4)))) (T2.ext (e3.trans e4)) (LamT.ext (extN_of (e3.trans e4)) ⟨c3, t3, a3, b3, d3⟩) upd_same⟩⟩
theorem sql_fx {h l : Addr} {H H1 : Hp} {xs : List V} (hh : H h = none) (hS : SqL K H l xs) (e : Ex H H1) : SqL K (Fx h l H1) l xs := by
  have go : ∀ {o : HO}, H l = some o → (∀ ps, o ≠ .tbl ps) → Fx h l H1 l = some o := fun {o} q n => by
    have ne : ¬ hl h l l := fun z => by rw [show l = h from z, hh] at q; cases q
    exact nt_of ((wn_ni ne).trans (e _ _ q)) n
  rcases hS with (q | ⟨u, q⟩) | q
  · exact .inl (.inl (go q fun _ z => nomatch z))
  · exact .inl (.inr ⟨u, go q fun _ z => nomatch z⟩)
  · exact .inr q
/-- what one may change and what is new -/
theorem ex_pre {Hp0 G : Hp} {N : Addr → Prop} (e : Ex Hp0 G) (n : ∀ b, N b → Hp0 b = none) (e2 : Ex (wn G N) H') : Ex Hp0 H' := fun b o q => e2 b o (by
  rw [wn_ni fun z => by rw [n b z] at q; cases q]
  exact e b o q)
/-- a row more -/
theorem Sh.add {S : Addr} {ad : List Addr} {g f : Nat → Int} {a n : Int} (hS : Sh H S ad g f) (hp : H p = some (.lst [.int a, .int n])) (ne : p ≠ S) (ni : p ∉ ad) :
    Sh (L2.upd H S (.lst (ad.map V.ref ++ [.ref p]))) S (ad ++ [p]) (fun i => if i < ad.length then g i else a) (fun i => if i < ad.length then f i else n) := by
  refine ⟨by rw [upd_same, List.map_append]; rfl, fun i q hq => ?_, ?_, ?_⟩
  · by_cases z : i < ad.length
    · rw [List.getElem?_append_left z] at hq
      rw [upd_ne (fun w => hS.out (by rw [← w]; exact List.mem_of_getElem? hq)), if_pos z, if_pos z]
      exact hS.row i q hq
    · rw [List.getElem?_append_right (by omega)] at hq
      have e : q = p := by
        have := List.mem_of_getElem? hq
        exact List.mem_singleton.mp this
      rw [e, upd_ne ne, if_neg z, if_neg z]
      exact hp
  · exact List.nodup_append.mpr ⟨hS.nd, by simp, fun x hx y hy => by rw [List.mem_singleton.mp hy]; exact fun w => ni (by rw [← w]; exact hx)⟩
  · intro w
    rcases List.mem_append.mp w with w | w
    · exact hS.out w
    · exact ne (List.mem_singleton.mp w).symm
end
end Sw
namespace Sw
open PySem PySem.Spec PyProof.Rows L2 Evl LamX NdefX
local macro_rules | `(tactic| walk_at "ev") => `(tactic| first
  | exact ev_c
  | exact ev_var rfl
  | ((with_reducible show Ev (tCB rMax2 _) _ _ _); exact ev_maxi (by walk_at "ev") (by walk_at "ev"))
  | ((with_reducible show Ev (tCB rMn _) _ _ _); exact ev_min2 (by walk_at "ev") (by walk_at "ev"))
  | ((with_reducible show Ev (tUn _ _) _ _ _); exact ev_un (by walk_at "ev") ru_neg)
  | ((with_reducible show Ev (tFld _ _ _) _ _ _); exact ev_fldK (by walk_at "ev") (by assumption))
  | ((with_reducible show Ev (tOp (rI0 _) _ _) _ _ _); exact ev_op (by walk_at "ev") (by walk_at "ev") rv_I0)
  | ((with_reducible show Ev (tOp rEq _ _) _ _ _); exact ev_op (by walk_at "ev") (by walk_at "ev") (rv_eq rfl))
  | ((with_reducible show Ev (tOp rNe _ _) _ _ _); exact ev_op (by walk_at "ev") (by walk_at "ev") (rv_ne rfl)))

def sp_lawT (K : PySem.W.Frag) (tb : Addr) : Sp := fun vs H Q _ => ∃ (a : Addr) (ns : List Int), vs = [.ref a] ∧ SqL K H a (ns.map V.int) ∧ ns.length ≤ 63 ∧ H tb = some (.tbl #[]) ∧ ∀ H', Q (.bl true) H'
theorem flt_in {a b c : Int} (ha : 0 ≤ a ∧ a ≤ 1000000) (hb : 0 ≤ b ∧ b ≤ 1000000) (hc : 0 ≤ c ∧ c ≤ 1000000) : flt [a, b, c] = none := by
  have o : ∀ {x : Int}, 0 ≤ x ∧ x ≤ 1000000 → okc x = true := fun h => by unfold okc; simp [h.1, h.2]
  unfold flt
  simp only [List.getD_cons_zero, List.getD_cons_succ]
  rw [o ha, o hb, o hc]; decide
/-- the profits of so many days -/
def prL (ps bs ds : List Int) (life : Int) (n : Nat) : List Int := (List.range n).map fun j => prT ps bs ds life j
theorem prL_len {ps bs ds : List Int} {life : Int} {n : Nat} : (prL ps bs ds life n).length = n := by unfold prL; rw [List.length_map, List.length_range]
theorem prL_at {ps bs ds : List Int} {life : Int} {n j : Nat} (h : j < n) : (prL ps bs ds life n).getD j 0 = prT ps bs ds life j := by
  unfold prL
  simp [List.getD, List.getElem?_range h]
theorem first_in {f : Nat → Bool} {d : Nat} (hf : f d = true) (hl : ∀ j, j < d → f j = false) : ∀ n, d < n → ((List.range n).filter f)[0]? = some d
  | 0, h => absurd h (by omega)
  | n + 1, h => by
    rw [List.range_succ, List.filter_append]
    by_cases z : d < n
    · have ih := first_in hf hl n z
      obtain ⟨lt, _⟩ := List.getElem?_eq_some_iff.mp ih
      rw [List.getElem?_append_left lt]; exact ih
    · have e : d = n := by omega
      subst e
      have e0 : (List.range d).filter f = [] := List.filter_eq_nil_iff.mpr fun j hj => by rw [hl j (List.mem_range.mp hj)]; simp
      rw [e0, List.filter_cons, if_pos hf]; rfl
theorem none_in {f : Nat → Bool} {n : Nat} (hl : ∀ j, j < n → f j = false) : (List.range n).filter f = [] := List.filter_eq_nil_iff.mpr fun j hj => by rw [hl j (List.mem_range.mp hj)]; simp
section
variable {K : PySem.W.Frag} {Z : Ad} {σ : L2.St} {H : Hp} {tl ta tb tc : TE} {b p : Addr} {xs : List V} {bs ds ps : List Int} {life goal : Int} {i m1 m2 : Nat} {E : XK} {D : Ends} {tz : TS}
theorem q_found (hl : EvL tl σ H xs) (ha : Ev ta σ H (.ref b)) (hb : Ev tb σ H (.ref p)) (hc : Ev tc σ H (.int goal)) (g0 : 0 ≤ goal) (g1 : goal ≤ 1000000000000000000) (hB : BakAt K Z H b bs ds life i) (hP : PriAt K Z H p ps) (hn : ∀ k, 0 ≤ ps.getD k 0 ∧ ps.getD k 0 ≤ 1000000)
    (k : ∀ pg v H2, Ex H H2 → H2 pg = some (.lst xs) → FirstV (prT ps bs ds life) goal v → tz D ((σ.set m1 (some (.ref pg))).set m2 (some v)) H2) :
    tSeq (tPar m1 m2 (tCons tl (tCons (tCall (sp_first K Z) [] E (tCons ta (tCons tb (tCons tc tNil)))) tNil))) tz D σ H := hl H (Ex.refl _) _ fun pg H1 _ e1 h1 => ha H1 e1 _ fun H2 e2 => hb H2 (e1.trans e2) _ fun H3 e3 => hc H3 ((e1.trans e2).trans e3) _ fun H4 e4 => by
  have e24 := (e2.trans e3).trans e4
  exact ⟨b, p, bs, ds, ps, life, i, goal, rfl, g0, g1, hB.mono (e1.trans e24), hP.mono (e1.trans e24), hn, fun v hv H5 e5 => ⟨.ref pg, v, rfl, k pg v H5 ((e1.trans e24).trans e5) ((e24.trans e5) _ _ h1) hv⟩⟩
theorem ev_round (ha : Ev ta σ H (.ref b)) (hb : Ev tb σ H (.ref p)) (hB : BakAt K Z H b bs ds life i) (hP : PriAt K Z H p ps) (hn : ∀ k, 0 ≤ ps.getD k 0 ∧ ps.getD k 0 ≤ 1000000) : Ev (tCall (sp_round K Z) [] E (tCons ta (tCons tb tNil))) σ H (.int (prf0 ps bs ds life)) :=
  ev_call (ea_cons ha (ea_cons hb ea_nil)) fun H1 e Q q E => ⟨b, p, bs, ds, ps, life, i, rfl, hB.mono e, hP.mono e, hn, q⟩
theorem ev_notN {v : V} (h : Ev ta σ H v) : Ev (tNotN ta) σ H (.bl (!decide (v = .non))) := fun H1 e1 Q q => h H1 e1 _ fun H2 e2 => q H2 e2
end
variable {P : Program} {w : World} {K : PySem.W.Frag} {mg : Str → Option Value} {base : Heap} {Z : Ad}
def nmLaw : Nat → Nat → Str := fun _ _ => "law.<locals>." ++ "<lambda>"
theorem ok_law (T : Txt K mg Z) (hP : P = Z.P) (TB : LamX.TabB base mg Z.k_law Z.tb_law) : FnOk P w K mg base CX0 11 Z.f_law Z.d_law p_law (sp_lawT K Z.tb_law) := by
  refine T.FC_law.ok sc_law (fun vs H Q E h => ?_) (fun Ar outer s H vs Q E hr h => ?_)
  · obtain ⟨a, ns, rfl, _⟩ := h
    rfl
  · obtain ⟨l, cells, rfl, hS, hn, hT0, k⟩ := h
    have TBm : (Z.tb_law, nmLaw) ∈ [(Z.tb_law, nmLaw)] := List.mem_singleton.mpr rfl
    have TBu : ∀ p ∈ [(Z.tb_law, nmLaw)], p.1 = Z.tb_law → p.2 = nmLaw := fun p hp _ => by rw [List.mem_singleton.mp hp]
    have T0 : TabsN [(Z.tb_law, nmLaw)] H := fun p hp => by rw [List.mem_singleton.mp hp]; exact TabN.nil hT0
    have p9 : (10 : Int) ^ (9 : Int).toNat = 1000000000 := by decide
    have p17 : (10 : Int) ^ (17 : Int).toNat = 100000000000000000 := by decide
    have p18 : (10 : Int) ^ (18 : Int).toNat = 1000000000000000000 := by decide
    refine ⟨_, (pss_cons (ps_set (i := 1) sc_law.nd rfl (Or.inr rfl) (pe_call (ok__law_start T) (hr.mono (by decide)) (by rfl) T.g__law_start T.F__law_start.kp T.b__law_start .nil pass0 (pa_cons (pv 0) pa_nil)))
      (pss_cons (ps_for PassesOwn.never rfl (pi_range1 (by rfl) T.b_range (pa_cons pe_int pa_nil)) (pg_name (i := 2) sc_law.nd rfl (Or.inl rfl)) (pss_cons (ps_par (i := 3) (j := 4) rfl sc_law.nd rfl rfl (by decide) rfl rfl (pa_cons (pe_ix (r := rIxL K) ix_list (pe_lst (pa_cons pe_int (pa_cons pe_int (pa_cons (pe_op op_pow pe_int pe_int) pa_nil)))) (pe_call (ok__law_drawn T) (hr.mono (by decide)) (by rfl) T.g__law_drawn T.F__law_drawn.kp T.b__law_drawn .nil pass0 (pa_cons (pv 1) (pa_cons pe_int pa_nil))) (fun _ _ => rfl)) (pa_cons (pe_op op_add pe_int (pe_call (ok__law_drawn T) (hr.mono (by decide)) (by rfl) T.g__law_drawn T.F__law_drawn.kp T.b__law_drawn .nil pass0 (pa_cons (pv 1) (pa_cons pe_int pa_nil)))) pa_nil)) (by rfl))
      (pss_cons (ps_par (i := 5) (j := 6) rfl sc_law.nd rfl rfl (by decide) rfl rfl (pa_cons (pe_call (ok__law_amounts T) (hr.mono (by decide)) (by rfl) T.g__law_amounts T.F__law_amounts.kp T.b__law_amounts .nil pass0 (pa_cons (pv 1) (pa_cons (pv 4) (pa_cons (pv 3) pa_nil)))) (pa_cons (pe_call (ok__law_amounts T) (hr.mono (by decide)) (by rfl) T.g__law_amounts T.F__law_amounts.kp T.b__law_amounts .nil pass0 (pa_cons (pv 1) (pa_cons (pv 4) (pa_cons (pv 3) pa_nil)))) pa_nil)) (by rfl))
      (pss_cons (ps_set (i := 7) sc_law.nd rfl (Or.inl rfl) (pe_op op_add pe_int (pe_call (ok__law_drawn T) (hr.mono (by decide)) (by rfl) T.g__law_drawn T.F__law_drawn.kp T.b__law_drawn .nil pass0 (pa_cons (pv 1) (pa_cons (pe_ix (r := rIxL K) ix_list (pe_lst (pa_cons pe_int (pa_cons pe_int pa_nil))) (pe_call (ok__law_drawn T) (hr.mono (by decide)) (by rfl) T.g__law_drawn T.F__law_drawn.kp T.b__law_drawn .nil pass0 (pa_cons (pv 1) (pa_cons pe_int pa_nil))) (fun _ _ => rfl)) pa_nil)))))
      (pss_cons (ps_asg (pe_tup (pa_cons (pe_make T.mk_Bakery (ok_Bakery___init__ T) (hr.mono (by decide)) (by rfl) T.g_Bakery T.b_Bakery___init__ .nil pass0 (pa_cons (pv 5) (pa_cons (pv 6) (pa_cons (pv 7) pa_nil)))) (pa_cons (pe_lc (own := [("_law_k", 23)]) rfl sc_law.nd (pi_range1 (by rfl) T.b_range (pa_cons pe_int pa_nil)) (blkOk_by (own := [("_law_k", 23)]) (N := n_law) (sc := defScope s_law) (scope := { kind := PySem.ScopeKind.function, names := [ (PySem.Str.ofString ".0", PySem.NameKind.local), (PySem.Str.ofString "_law_k", PySem.NameKind.local), (PySem.Str.ofString "_law_drawn", PySem.NameKind.globalImplicit), (PySem.Str.ofString "_law_state", PySem.NameKind.free)], isGenerator := false, isCoroutine := false, more := [] : PySem.Scope }) (by decide +kernel)) (fun _ _ _ _ _ => (pg_name (i := 23) sc_law.nd rfl (Or.inl rfl))) (fun _ _ _ _ _ => pts_nil) (fun _ _ _ _ _ => (pe_call (ok__law_drawn T) (hr.mono (by decide)) (by rfl) T.g__law_drawn T.F__law_drawn.kp T.b__law_drawn .nil pass0 (pa_cons (pv 1) (pa_cons pe_int pa_nil))))) pa_nil))) (by exact (pg_tupK K (n := 2) rfl rfl (pgs_cons (pg_name (i := 21) sc_law.nd rfl (Or.inr rfl)) (pgs_cons (pg_name (i := 8) sc_law.nd rfl (Or.inl rfl)) pgs_nil)))))
      (pss_cons (ps_asg (pe_tup (pa_cons (pe_make T.mk_Prices (ok_Prices___init__ T) (hr.mono (by decide)) (by rfl) T.g_Prices T.b_Prices___init__ .nil pass0 (pa_cons (pe_ix (r := rIxL K) ix_list (pv 8) pe_int (fun _ _ => rfl)) (pa_cons (pe_ix (r := rIxL K) ix_list (pv 8) pe_int (fun _ _ => rfl)) (pa_cons (pe_ix (r := rIxL K) ix_list (pv 8) pe_int (fun _ _ => rfl)) pa_nil)))) (pa_cons (pe_lst pa_nil) (pa_cons (pe_lst (pa_cons pe_int pa_nil)) pa_nil)))) (by exact (pg_tupK K (n := 3) rfl rfl (pgs_cons (pg_name (i := 22) sc_law.nd rfl (Or.inr rfl)) (pgs_cons (pg_name (i := 9) sc_law.nd rfl (Or.inl rfl)) (pgs_cons (pg_name (i := 10) sc_law.nd rfl (Or.inr rfl)) pgs_nil))))))
      (pss_cons (ps_for PassesOwn.never rfl (pi_range1 (by rfl) T.b_range (pa_cons pe_int pa_nil)) (pg_name (i := 11) sc_law.nd rfl (Or.inl rfl)) (pss_cons (ps_expr (pe_bm PySem.F.plainAttrs_list PySem.F.slot_list_append PySem.F.type_list_append mt_append (pv 9) (pa_cons (pe_lst (pa_cons pe_int (pa_cons (pe_ix (r := rIxT K) ix_tup (pv 5) (pe_op op_mod (pv 11) (pv 4)) (fun _ _ => rfl)) pa_nil))) pa_nil)))
      (pss_cons (ps_set (i := 12) sc_law.nd rfl (Or.inl rfl) (pe_call (ok__law_sold T) (hr.mono (by decide)) (by rfl) T.g__law_sold T.F__law_sold.kp T.b__law_sold .nil pass0 (pa_cons (pv 9) (pa_cons (pe_ix (r := rIxT K) ix_tup (pv 6) (pe_op op_mod (pv 11) (pv 4)) (fun _ _ => rfl)) pa_nil))))
      (pss_cons (ps_set (i := 13) sc_law.nd rfl (Or.inl rfl) (pe_op op_sub (pe_op op_mul (pe_ix (r := rIxL K) ix_list (pv 8) pe_int (fun _ _ => rfl)) (pv 12)) (pe_op op_mul (pe_ix (r := rIxL K) ix_list (pv 8) pe_int (fun _ _ => rfl)) (pe_ix (r := rIxT K) ix_tup (pv 5) (pe_op op_mod (pv 11) (pv 4)) (fun _ _ => rfl)))))
      (pss_cons (ps_set (i := 13) sc_law.nd rfl (Or.inl rfl) (pe_op op_sub (pv 13) (pe_op op_mul (pe_ix (r := rIxL K) ix_list (pv 8) pe_int (fun _ _ => rfl)) (pe_call (ok__law_closed T) (hr.mono (by decide)) (by rfl) T.g__law_closed T.F__law_closed.kp T.b__law_closed .nil pass0 (pa_cons (pv 9) (pa_cons (pv 7) pa_nil))))))
      (pss_one (ps_expr (pe_bm PySem.F.plainAttrs_list PySem.F.slot_list_append PySem.F.type_list_append mt_append (pv 10) (pa_cons (pe_op op_add (pe_ix (r := rIxL K) ix_list (pv 10) (pe_op op_sub pe_int pe_int) (fun _ _ => rfl)) (pv 13)) pa_nil)))))))))
      (pss_cons (ps_if (pt_cmpR (op_neD hr.units) (pe_lc (own := [("_law_days", 24)]) rfl sc_law.nd (pi_range3 (by rfl) T.b_range (pa_cons pe_int (pa_cons pe_int (pa_cons pe_int pa_nil)))) (blkOk_by (own := [("_law_days", 24)]) (N := n_law) (sc := defScope s_law) (scope := { kind := PySem.ScopeKind.function, names := [ (PySem.Str.ofString ".0", PySem.NameKind.local), (PySem.Str.ofString "_law_days", PySem.NameKind.local), (PySem.Str.ofString "profit", PySem.NameKind.globalImplicit), (PySem.Str.ofString "_law_bakery", PySem.NameKind.free), (PySem.Str.ofString "_law_prices", PySem.NameKind.free)], isGenerator := false, isCoroutine := false, more := [] : PySem.Scope }) (by decide +kernel)) (fun _ _ _ _ _ => (pg_name (i := 24) sc_law.nd rfl (Or.inl rfl))) (fun _ _ _ _ _ => pts_nil) (fun _ _ _ _ _ => (pe_call (ok_profit T) (hr.mono (by decide)) (by rfl) T.g_profit T.F_profit.kp T.b_profit .nil pass0 (pa_cons (pv 21) (pa_cons (pv 22) (pa_cons (pv 24) pa_nil)))))) (pe_stepL (pv 10) (by decide)) (nomark _)) (pss_one (ps_ret pe_bl)) pss_nil)
      (pss_cons (ps_set (i := 14) sc_law.nd rfl (Or.inr rfl) (pe_call (ok__law_drawn T) (hr.mono (by decide)) (by rfl) T.g__law_drawn T.F__law_drawn.kp T.b__law_drawn .nil pass0 (pa_cons (pv 1) (pa_cons (pe_ix (r := rIxL K) ix_list (pe_lst (pa_cons pe_int (pa_cons (pe_op op_add (pe_op op_mul (pv 3) pe_int) pe_int) pa_nil))) (pe_call (ok__law_drawn T) (hr.mono (by decide)) (by rfl) T.g__law_drawn T.F__law_drawn.kp T.b__law_drawn .nil pass0 (pa_cons (pv 1) (pa_cons pe_int pa_nil))) (fun _ _ => rfl)) pa_nil))))
      (pss_cons (ps_par (i := 15) (j := 16) rfl sc_law.nd rfl rfl (by decide) rfl rfl (pa_cons (pe_lc (own := [("_law_days", 24)]) rfl sc_law.nd (pi_range1 (by rfl) T.b_range (pa_cons pe_int pa_nil)) (blkOk_by (own := [("_law_days", 24)]) (N := n_law) (sc := defScope s_law) (scope := { kind := PySem.ScopeKind.function, names := [ (PySem.Str.ofString ".0", PySem.NameKind.local), (PySem.Str.ofString "_law_days", PySem.NameKind.local), (PySem.Str.ofString "_law_goal", PySem.NameKind.free), (PySem.Str.ofString "_law_sums", PySem.NameKind.free)], isGenerator := false, isCoroutine := false, more := [] : PySem.Scope }) (by decide +kernel)) (fun _ _ _ _ _ => (pg_name (i := 24) sc_law.nd rfl (Or.inl rfl))) (fun _ _ _ _ _ => (pts_one (pt_cmpR op_ge (pe_ix (r := rIxL K) ix_list (pv 10) (pv 24) (fun _ _ => rfl)) (pv 14) (nomark _)))) (fun _ _ _ _ _ => (pv 24))) (pa_cons (pe_call (ok_first_profit T) (hr.mono (by decide)) (by rfl) T.g_first_profit T.F_first_profit.kp T.b_first_profit .nil pass0 (pa_cons (pv 21) (pa_cons (pv 22) (pa_cons (pv 14) pa_nil)))) pa_nil)) (by rfl))
      (pss_cons (ps_if (PW.pt (pw_and (pt_cmpR (op_neD hr.units) (pv 15) (pe_lst pa_nil) (nomark _)) (pw_and1 (pt_not (pt_val (pe_call (ok__law_same T 1) (hr.mono (by decide)) (by rfl) T.g__law_same T.F__law_same.kp T.b__law_same .nil pass0 (pa_cons (pv 16) (pa_cons (pe_ix (r := rIxL K) ix_list (pv 15) pe_int (fun _ _ => rfl)) pa_nil)))))))) (pss_one (ps_ret pe_bl)) pss_nil)
      (pss_cons (ps_if (PW.pt (pw_and (pt_cmpR (op_eqD hr.units) (pv 15) (pe_lst pa_nil) (nomark _)) (pw_and (pt_cmp (pc_notN (pv 16))) (pw_and1 (pt_cmpR op_le (pv 16) pe_int (nomark _)))))) (pss_one (ps_ret pe_bl)) pss_nil)
      (pss_cons (ps_if (PW.pt (pw_and (pt_cmp (pc_notN (pv 16))) (pw_and1 (pt_cmpR op_lt (pe_call (ok_profit T) (hr.mono (by decide)) (by rfl) T.g_profit T.F_profit.kp T.b_profit .nil pass0 (pa_cons (pv 21) (pa_cons (pv 22) (pa_cons (pv 16) pa_nil)))) (pv 14) (nomark _))))) (pss_one (ps_ret pe_bl)) pss_nil)
      (pss_cons (ps_par (i := 17) (j := 18) rfl sc_law.nd rfl rfl (by decide) rfl rfl (pa_cons (pe_op op_add (pe_prop (pv 21) T.cl_Bakery T.pp_Bakery_settled_day (ok_Bakery_settled_day T) (hr.mono (by decide)) T.b_Bakery_settled_day .nil pass0 rfl) (pv 4)) (pa_cons (pe_call (ok__law_drawn T) (hr.mono (by decide)) (by rfl) T.g__law_drawn T.F__law_drawn.kp T.b__law_drawn .nil pass0 (pa_cons (pv 1) (pa_cons (pe_op op_pow pe_int pe_int) pa_nil))) pa_nil)) (by rfl))
      (pss_cons (ps_set (i := 19) sc_law.nd rfl (Or.inl rfl) (pe_op op_sub (pe_call (ok_profit T) (hr.mono (by decide)) (by rfl) T.g_profit T.F_profit.kp T.b_profit .nil pass0 (pa_cons (pv 21) (pa_cons (pv 22) (pa_cons (pe_op op_add (pv 17) (pe_op op_mul (pv 18) (pv 4))) pa_nil)))) (pe_call (ok_profit T) (hr.mono (by decide)) (by rfl) T.g_profit T.F_profit.kp T.b_profit .nil pass0 (pa_cons (pv 21) (pa_cons (pv 22) (pa_cons (pv 17) pa_nil))))))
      (pss_cons (ps_if (PW.pt (pw_and (pt_cmpR op_lt (pv 17) (pe_op op_pow pe_int pe_int) (nomark _)) (pw_and1 (pt_cmpR op_ne (pv 19) (pe_op op_mul (pv 18) (pe_call (ok_round_profit T) (hr.mono (by decide)) (by rfl) T.g_round_profit T.F_round_profit.kp T.b_round_profit .nil pass0 (pa_cons (pv 21) (pa_cons (pv 22) pa_nil)))) (nomark _))))) (pss_one (ps_ret pe_bl)) pss_nil)
      (pss_cons (ps_set (i := 20) sc_law.nd rfl (Or.inl rfl) (pe_lst (pa_cons (pe_lamE TB rfl TBm rfl TBu rfl (fun y hy e => ndef_free (sc := defScope s_law) (fr := []) (by decide +kernel) y hy e)) (pa_cons (pe_lamD TB rfl TBm rfl TBu pe_int rfl (fun y hy e => ndef_free (sc := defScope s_law) (fr := []) (by decide +kernel) y hy e)) pa_nil))))
      (pss_cons (ps_set (i := 20) sc_law.nd rfl (Or.inl rfl) (pe_op op_cat (pv 20) (pe_lst (pa_cons (pe_lamD TB rfl TBm rfl TBu pe_int rfl (fun y hy e => ndef_free (sc := defScope s_law) (fr := []) (by decide +kernel) y hy e)) pa_nil))))
      (pss_one (ps_if (pt_cmpR (op_neD hr.units) (pe_lcF (own := [("_law_work", 25)]) (sc := { kind := PySem.ScopeKind.function, names := [ (PySem.Str.ofString ".0", PySem.NameKind.local), (PySem.Str.ofString "_law_work", PySem.NameKind.local), (PySem.Str.ofString "_law_outcome", PySem.NameKind.globalImplicit)], isGenerator := false, isCoroutine := false, more := [] : PySem.Scope }) rfl sc_law.nd (pi_listK K rfl (pv 20)) (blkOk_by (own := [("_law_work", 25)]) (N := n_law) (sc := defScope s_law) (scope := { kind := PySem.ScopeKind.function, names := [ (PySem.Str.ofString ".0", PySem.NameKind.local), (PySem.Str.ofString "_law_work", PySem.NameKind.local), (PySem.Str.ofString "_law_outcome", PySem.NameKind.globalImplicit)], isGenerator := false, isCoroutine := false, more := [] : PySem.Scope }) (by decide +kernel)) (by decide +kernel) (fun _ _ _ _ _ => (pg_name (i := 25) sc_law.nd rfl (Or.inl rfl))) (fun _ _ _ _ _ => (pe_call (ok__law_outcome (P := P) (w := w) (base := base) T) (hr.mono (by decide)) (by rfl) T.g__law_outcome T.F__law_outcome.kp T.b__law_outcome .nil pass0 (pa_cons (pv 25) pa_nil)))) (pe_op op_rep (pe_lst (pa_cons (pe_tup (pa_cons pe_str pa_nil)) pa_nil)) pe_int) (nomark _)) (pss_one (ps_ret pe_bl)) pss_nil))))))))))))))))))))
      (pss_one (ps_ret pe_bl)))), ?_⟩
    refine ⟨_, rfl, l, cells, rfl, hS, hn, fun h H1 hh e1 hs1 => ?_⟩
    refine q_forR1 (n := 3) (ea_cons ev_c ea_nil) ⟨by decide, by decide⟩ (fun _ σ' H' => (∃ x2 x3 x4 x5 x6 x7 x8 x9 x10 x11 x12 x13 x14 x15 x16 x17 x18 x19 x20 x21 x22 x23 x24 x25, σ' = [some (.ref l), some (.ref h), x2, x3, x4, x5, x6, x7, x8, x9, x10, x11, x12, x13, x14, x15, x16, x17, x18, x19, x20, x21, x22, x23, x24, x25]) ∧ HS H' h l ∧ SqL K (Fx h l H') l (cells.map V.int) ∧ TabsN [(Z.tb_law, nmLaw)] H')
      (fun H2 e2 => ⟨⟨_, _, _, _, _, _, _, _, _, _, _, _, _, _, _, _, _, _, _, _, _, _, _, _, rfl⟩, hs1.mono e2, sql_fx hh hS (e1.trans e2), (T0.ext e1).ext e2⟩) ?_ (fun σ' H' q => ?_)
    · rintro turn σ' H0 ht ⟨⟨_, _, _, _, _, _, _, _, _, _, _, _, _, _, _, _, _, _, _, _, _, _, _, _, rfl⟩, hs0, hc0', T1⟩
      have hc0 : SqL K (wn H0 (hl h l)) l (cells.map V.int) := ex_l fx_wn hc0'
      -- the greatest amount, the size
      refine x_par hs0 (P := fun v _ => ∃ i, v = .int i ∧ (i = 5 ∨ i = 30 ∨ i = 1000000000)) (Q := fun v _ => ∃ i, v = .int i ∧ (1 ≤ i ∧ i < 7)) (EvI.imp (B := fun i => i = 5 ∨ i = 30 ∨ i = 1000000000) (xi_pick (K := K) (n := 3) (ns := [5, 30, 1000000000]) (B := fun i => 0 ≤ i ∧ i < 3) (el_lst (ea_cons ev_c (ea_cons ev_c (ea_cons (Ev.int_eq (ev_op ev_c ev_c (rv_I ⟨by decide, by decide, by decide⟩)) p9) ea_nil))) (by show 3 ≤ 100000; decide))
        (xi_dr (cells := cells) hc0 (fun G => ev_var rfl) (xi_ev ev_c rfl) (by decide) (by decide)) (fun i q => by simpa using q)) fun i q => by simpa using q)
        (xi_op0 (A := fun i => i = 1) (D := fun i => 1 ≤ i ∧ i < 7) (xi_ev ev_c rfl) (xi_dr (cells := cells) (n := 6) hc0 (fun G => ev_var rfl) (xi_ev ev_c rfl) (by decide) (by decide)) (fun i j a b => by omega)) fun vh vz Hd H2 da db ⟨high, ev1, hh2⟩ ⟨size, ev2, hsz⟩ => ?_
      subst ev1 ev2
      have d2 := da.trans db
      have hc2 := ex_l d2.ex hc0
      -- the amounts
      refine x_par d2.hs (x_amounts (cells := cells) (n := size) (w := high) hc2 (fun G => ev_var rfl) (ev_var rfl) (ev_var rfl) (by omega) (by omega) (by omega) (by omega)) (x_amounts (cells := cells) (n := size) (w := high) hc2 (fun G => ev_var rfl) (ev_var rfl) (ev_var rfl) (by omega) (by omega) (by omega) (by omega)) fun v v' H3 H4 d3 d4 ⟨pb, bs, ev, hb3, lb, mb⟩ ⟨pd, ds, ev', hd4, ld, md⟩ => ?_
      subst ev ev'
      have d34 := d3.trans d4
      have hc4 := ex_l d34.ex hc2
      have hb4 : SqT K (wn H4 (hl h l)) pb (bs.map V.int) := ex_t d4.ex (st_of hb3)
      have hd4 : SqT K (wn H4 (hl h l)) pd (ds.map V.int) := st_of hd4
      have gd : Good bs ds := ⟨by omega, by omega, by omega, fun x hx => by have := mb x hx; omega, fun x hx => by have := md x hx; omega⟩
      -- the life
      refine x_asgI (A := fun i => 1 ≤ i ∧ i ≤ 30) d34.hs (xi_op0 (A := fun i => i = 1) (B := fun i => 0 ≤ i ∧ i < 30) (xi_ev ev_c rfl) (xi_drA (cells := cells) (n := 30) (A := fun i => i ∈ ([4, 30] : List Int)) hc4 (fun G => ev_var rfl) (xi_pick (K := K) (n := 2) (ns := [4, 30]) (B := fun i => 0 ≤ i ∧ i < 2) (el_lst (ea_cons ev_c (ea_cons ev_c ea_nil)) (by show 2 ≤ 100000; decide)) (xi_dr (cells := cells) hc4 (fun G => ev_var rfl) (xi_ev ev_c rfl) (by decide) (by decide)) (fun i q => by simpa using q)) (fun i q => by simp at q; omega) (by decide)) (fun i j a b => by omega)) fun life H5 d5 hli => ?_
      have hc5 := ex_l d5.ex hc4
      have hb5 := ex_t d5.ex hb4
      have hd5 := ex_t d5.ex hd4
      -- the bakery, the cents
      refine q_bakC (A := fun ns => (ns.length : Int) = 3 ∧ ∀ x ∈ ns, 0 ≤ x ∧ x < 9) d5.hs (er_bakery (K := K) (Z := Z) (ea_cons (ev_var rfl) (ea_cons (ev_var rfl) (ea_cons (ev_var rfl) ea_nil))) hb5 hd5 gd hli.1 hli.2)
        (x_lcR (A := fun x => 0 ≤ x ∧ x < 9) (n := 3) (ea_cons ev_c ea_nil) ⟨by decide, by decide⟩ (fun _ => rfl) (fun i G dG hi => xi_dr (cells := cells) (n := 9) (ex_l dG.ex hc5) (fun G => ev_var rfl) (xi_ev ev_c rfl) (by decide) (by decide))) fun b pc ps S1 H6 d51 d6 hP hpc hA => ?_
      have d56 := d51.trans d6
      obtain ⟨ix, hB5⟩ := hP
      have hB6 := hB5.mono d6.ex
      have hc6 := ex_l d56.ex hc5
      have hb6 := ex_t d56.ex hb5
      have hd6 := ex_t d56.ex hd5
      have hs6 := d6.hs
      have T6 := tabs_dr hs0 (((d2.trans d34).trans d5).trans d56) T1
      have hpc6 : SqL K (wn H6 (hl h l)) pc (ps.map V.int) := sq_of hpc
      have n3 : ps.length = 3 := by have := hA.1; omega
      have hpn8 : ∀ k, 0 ≤ ps.getD k 0 ∧ ps.getD k 0 ≤ 8 := fun k => by
        by_cases hk : k < ps.length
        · have e : ps.getD k 0 = ps[k] := by simp [List.getD, hk]
          rw [e]; have := hA.2 _ (List.getElem_mem hk); omega
        · have e : ps.getD k 0 = 0 := by simp [List.getD, List.getElem?_eq_none (Nat.le_of_not_lt hk)]
          rw [e]; omega
      have hpn : ∀ k, 0 ≤ ps.getD k 0 ∧ ps.getD k 0 ≤ 1000000 := fun k => by have := hpn8 k; omega
      -- the prices, the shelf, the sums
      refine q_priC (K := K) (Z := Z) (ps := ps) (fun Q q => r_pri (fun _ _ _ _ h => h) (ea_cons (ev_ixL (ev_var rfl) (ex_l wn_ex hpc6) ev_c (atI_mapI (i := 0) (by decide) (by omega))) (ea_cons (ev_ixL (ev_var rfl) (ex_l wn_ex hpc6) ev_c (atI_mapI (i := 1) (by decide) (by omega))) (ea_cons (ev_ixL (ev_var rfl) (ex_l wn_ex hpc6) ev_c (atI_mapI (i := 2) (by decide) (by omega))) ea_nil))) (flt_in (hpn _) (hpn _) (hpn _)) (by
        have e := three n3
        intro p H2 np e2 hP2
        exact q p H2 np e2 (by rw [e]; exact hP2))) (fun G => el_lst ea_nil (by show 0 ≤ 100000; decide)) (fun G => el_lst (ea_cons ev_c ea_nil) (by show 1 ≤ 100000; decide)) fun p H7 S q H8 e7 hP7 e8 nS nq neq hS8 hq8 => ?_
      have hs7 := hs6.mono e7
      have w67 : Ex (wn H6 (hl h l)) (wn H7 (hl h l)) := wn_mono e7
      have hc7 := ex_l w67 hc6
      have hB7 := hB6.mono w67
      have hb7 := ex_t w67 hb6
      have hd7 := ex_t w67 hd6
      have hpc7 := ex_l w67 hpc6
      have T7 := T6.ext e7
      have hP7 := pri_wn hs7 hP7
      have cm := hB7.com
      have hcF7 : SqL K (Fx h l H7) l (cells.map V.int) := ex_l (fx_ex e7) (ex_l (fx_dr (((d2.trans d34).trans d5).trans d56)) hc0')
      clear hc0 hc0' hs0 hc2 hb3 d2 d3 d4 d34 d5 d6 d51 d56 hc4 hb4 hd4 hc5 hb5 hd5 hB5 hB6 hc6 hb6 hd6 hs6 hpc hpc6 w67
      -- the days
      refine q_forR1 (n := 90) (ea_cons ev_c ea_nil) ⟨by decide, by decide⟩ (fun t σ' H' => ∃ (e : Nat) (ad : List Addr) (x11 x12 x13 x14 x15 x16 x17 x18 x19 x20 x23 x24 x25 : Option V), σ' = [some (.ref l), some (.ref h), some (.int turn), some (.int high), some (.int size), some (.ref pb), some (.ref pd), some (.int life), some (.ref pc), some (.ref S), some (.ref q), x11, x12, x13, x14, x15, x16, x17, x18, x19, x20, some (.ref b), some (.ref p), x23, x24, x25] ∧
          e ≤ t ∧ dayS bs ds (keepL bs life) t ≤ psb bs t - psb bs e ∧ ad.length = t - e ∧ Sh H' S ad (fun i => ((t - e : Nat) : Int) - (i : Int)) (fun i => rowL bs ds life t (e + i)) ∧ (∀ a ∈ ad, H7 a = none) ∧ q ∉ ad ∧ H' q = some (.lst ((prL ps bs ds life (t + 1)).map V.int)) ∧ Ex H7 H')
        (fun H9 e9 => ⟨0, [], _, _, _, _, _, _, _, _, _, _, _, _, _, rfl, Nat.le_refl _, by show (0 : Int) ≤ _; simp, rfl, ⟨e9 _ _ hS8, fun i p hp => (by simp at hp), List.nodup_nil, by simp⟩, by simp, by simp, by
          have e0 : (prL ps bs ds life (0 + 1)).map V.int = [.int 0] := by
            show [V.int (prT ps bs ds life 0)] = _
            rw [pr_zero]
          rw [e0]; exact e9 _ _ hq8, e8.trans e9⟩) ?_ ?_
      · rintro t σ' H' ht ⟨e, ad, x11, x12, x13, x14, x15, x16, x17, x18, x19, x20, x23, x24, x25, rfl, he, hsd, hla, hSh, hnew, hqa, hq, eP⟩
        have g0 := hpn8 0
        have g1 := hpn8 1
        have g2 := hpn8 2
        have szp : 0 < size := by omega
        have lbs : (bs.length : Int) = size := by omega
        have ldb : ds.length = bs.length := by omega
        refine q_appL hSh.hs (ev_var rfl) (el_lst (ea_cons ev_c (ea_cons (ev_bk (t := t) (size := size) (ev_var rfl) (ex_t (wn_ex.trans eP) hb7) lbs szp (ev_op (ev_var rfl) (ev_var rfl) (rv_I szp))) ea_nil)) (by show 2 ≤ 100000; decide)) (by rw [List.length_map]; omega) fun r H9 nr e9 hr => ?_
        have nrS : r ≠ S := fun z => by rw [z, hSh.hs] at nr; cases nr
        have nra : r ∉ ad := fun z => by
          obtain ⟨i, hi⟩ := List.getElem?_of_mem z
          rw [hSh.row i r hi] at nr; cases nr
        have nrq : q ≠ r := fun z => by rw [← z, hq] at nr; cases nr
        have hSh10 := (hSh.mono e9).add hr nrS nra
        have eP10 : Ex H7 (upd H9 S (.lst (ad.map V.ref ++ [.ref r]))) := ex_pre (N := fun b => b = S) (eP.trans e9) (fun b z => by rw [z]; exact nS) (ex_updN wn_ex rfl)
        have hq10 : (upd H9 S (.lst (ad.map V.ref ++ [.ref r]))) q = some (.lst ((prL ps bs ds life (t + 1)).map V.int)) := (upd_ne neq.symm).trans (e9 _ _ hq)
        generalize upd H9 S (.lst (ad.map V.ref ++ [.ref r])) = H10 at hSh10 eP10 hq10 ⊢
        have hlr : (ad ++ [r]).length = t + 1 - e := by rw [List.length_append, hla, List.length_singleton]; omega
        have hSh10 : Sh H10 S (ad ++ [r]) (fun i => ((t - e : Nat) : Int) - (i : Int)) (rowB bs ds life t e) := hSh10.congr (fun i hi => by
          by_cases z : i < ad.length
          · rw [if_pos z]
          · rw [if_neg z]; omega) fun i hi => by
          unfold rowB
          by_cases z : i < ad.length
          · rw [if_pos z, if_pos (by omega)]
          · rw [if_neg z, if_neg (by omega)]
        have hnr : ∀ a ∈ ad ++ [r], H7 a = none := fun a ha => by
          rcases List.mem_append.mp ha with z | z
          · exact hnew a z
          · rw [List.mem_singleton.mp z]; exact fresh_back eP nr
        have hqr : q ∉ ad ++ [r] := fun z => by
          rcases List.mem_append.mp z with z | z
          · exact hqa z
          · exact nrq (List.mem_singleton.mp z)
        refine q_sold (c := dm bs ds t) (ev_var rfl) (ev_dm (t := t) (size := size) (ev_var rfl) (ex_t (wn_ex.trans eP10) hd7) ldb lbs szp (ev_op (ev_var rfl) (ev_var rfl) (rv_I szp))) hSh10 (by omega) (dm_b gd t) (fun i => rowB_nn gd t e i) fun H11 e11 hSh11 => ?_
        rw [hlr, day_sold gd he hsd]
        have eP11 := ex_pre eP10 hnr e11
        have hq11 := e11 _ _ ((wn_ni hqr).trans hq10)
        refine q_asg (v := .int (ps.getD 0 0 * solS bs ds (keepL bs life) t - ps.getD 1 0 * bk bs t)) (ev_op (ev_op (ev_ixL (ev_var rfl) (ex_l (wn_ex.trans eP11) hpc7) ev_c (atI_mapI (i := 0) (by decide) (by omega))) (ev_var rfl) (rv_I (.inl ⟨by show -(2 ^ 64) < ps.getD 0 0; omega, by show ps.getD 0 0 < 2 ^ 64; omega⟩))) (ev_op (ev_ixL (ev_var rfl) (ex_l (wn_ex.trans eP11) hpc7) ev_c (atI_mapI (i := 1) (by decide) (by omega))) (ev_bk (t := t) (size := size) (ev_var rfl) (ex_t (wn_ex.trans eP11) hb7) lbs szp (ev_op (ev_var rfl) (ev_var rfl) (rv_I szp))) (rv_I (.inl ⟨by show -(2 ^ 64) < ps.getD 1 0; omega, by show ps.getD 1 0 < 2 ^ 64; omega⟩))) rv_I0) fun H12 e12 => ?_
        have eP12 := eP11.trans e12
        have hSh12 : Sh H12 S (ad ++ [r]) (fun i => ((t - e : Nat) : Int) - (i : Int)) (rowS bs ds life t e) := hSh11.mono e12
        refine q_closed (x := ps.getD 0 0 * solS bs ds (keepL bs life) t - ps.getD 1 0 * bk bs t) (y := ps.getD 2 0) (ev_var rfl) (ev_ixL (ev_var rfl) (ex_l (wn_ex.trans eP12) hpc7) ev_c (atI_mapI (i := 2) (by decide) (by omega))) (ev_var rfl) (ev_var rfl) hSh12 (by omega) (fun z => .inl ⟨by omega, by omega⟩) fun kk H13 hk h1 h2 e13 hSh13 => ?_
        obtain ⟨c1, c2, c3⟩ := day_closed gd hli.1 he hsd (k := kk) (by omega) h1 (fun z => h2 (by omega))
        rw [c1]
        have eP13 := ex_pre (N := fun b => b = S ∨ b ∈ ad ++ [r]) eP12 (fun b z => by
          rcases z with z | z
          · rw [z]; exact nS
          · exact hnr b z) e13
        have hq13 := e13 _ _ ((wn_ni (fun z => z.elim (fun z => neq z.symm) hqr)).trans (e12 _ _ hq11))
        have eL : (prL ps bs ds life (t + 1)).map V.int = (prL ps bs ds life t).map V.int ++ [.int (prT ps bs ds life t)] := by
          unfold prL
          rw [List.range_succ, List.map_append, List.map_append]; rfl
        have eL2 : (prL ps bs ds life (t + 1 + 1)).map V.int = (prL ps bs ds life (t + 1)).map V.int ++ [.int (prT ps bs ds life t + (ps.getD 0 0 * solS bs ds (keepL bs life) t - ps.getD 1 0 * bk bs t - ps.getD 2 0 * thrS bs ds (keepL bs life) t))] := by
          rw [← pr_step]
          unfold prL
          rw [List.range_succ (n := t + 1), List.map_append, List.map_append]; rfl
        refine s_app hq13 (ev_var rfl) (ev_op (ev_ixL (ev_var rfl) (sq_of hq13) (Ev.int_eq (j := -1) (ev_op ev_c ev_c rv_I0) (by decide)) (by rw [eL]; exact atI_last)) (ev_var rfl) rv_I0) (by rw [List.length_map, prL_len]; omega) fun H14 e14 => ?_
        have hS14 := hSh13.mono e14
        refine ⟨e + kk, (ad ++ [r]).drop kk, _, _, _, _, _, _, _, _, _, _, _, _, _, rfl, by omega, c2, by rw [List.length_drop]; omega, ?_, fun a ha => hnr a (List.mem_of_mem_drop ha), fun z => hqr (List.mem_of_mem_drop z), by rw [upd_same, eL2], ex_pre (N := fun b => b = q) (eP13.trans e14) (fun b z => by rw [z]; exact nq) (ex_updN wn_ex rfl)⟩
        have hS15 : Sh (upd H14 q (.lst ((prL ps bs ds life (t + 1)).map V.int ++ [.int (prT ps bs ds life t + (ps.getD 0 0 * solS bs ds (keepL bs life) t - ps.getD 1 0 * bk bs t - ps.getD 2 0 * thrS bs ds (keepL bs life) t))]))) S ((ad ++ [r]).drop kk) (fun i => ((t - e : Nat) : Int) + 1 - (kk : Int) - (i : Int)) (fun i => rowS bs ds life t e (kk + i)) :=
          ⟨(upd_ne neq).trans hS14.hs, fun i a ha => (upd_ne (fun z => hqr (by rw [← z]; exact List.mem_of_mem_drop (List.mem_of_getElem? ha)))).trans (hS14.row i a ha), hS14.nd, hS14.out⟩
        refine hS15.congr (fun i hi => by omega) fun i hi => ?_
        rw [List.length_drop] at hi
        exact (c3 i (by omega)).symm
      rintro σ' H9 ⟨e, ad, x11, x12, x13, x14, x15, x16, x17, x18, x19, x20, x23, x24, x25, rfl, he, hsd, hla, hSh, hnew, hqa, hq, eP⟩
      clear hSh hnew hqa hla hsd he
      have hq : H9 q = some (.lst ((prL ps bs ds life 91).map V.int)) := hq
      have w9 : Ex (wn H7 (hl h l)) (wn H9 (hl h l)) := wn_mono eP
      have hs9 := hs7.mono eP
      have hc9 := ex_l w9 hc7
      have hB9 := hB7.mono w9
      have hP9 := hP7.mono w9
      have T9 := T7.ext eP
      have nhq : ¬ hl h l q := hl_new (G' := H7) hs7 nq
      clear hs7 hc7 hB7 hP7 T7 hb7 hd7 hpc7
      -- the profits of some days
      have evP : ∀ {σ : L2.St} {G : Hp} {ta tb tc : TE} {E : XK} {t : Nat} {n : Int}, Ex (wn H9 (hl h l)) G → Ev ta σ G (.ref b) → Ev tb σ G (.ref p) → Ev tc σ G (.int n) → n = (t : Int) → (t : Int) ≤ 1000000000000000000 → Ev (tCall (sp_profit K Z) [] E (tCons ta (tCons tb (tCons tc tNil)))) σ G (.int (prT ps bs ds life t)) := fun e h1 h2 h3 h4 h5 => ev_profit h1 h2 h3 h4 h5 (hB9.mono e) (hP9.mono e) hpn
      have eS : stepV ((prL ps bs ds life 91).map V.int) 4 = ((List.range 23).map fun j => prT ps bs ds life (j * 4)).map V.int := by
        have hl91 : ((prL ps bs ds life 91).map V.int).length = 91 := by rw [List.length_map, prL_len]
        rw [step_is _ 4 (by decide) 23 (V.int 0) (by rw [hl91]; decide) (by rw [hl91]; decide) (fun j hj => by rw [hl91]; omega), List.map_map]
        refine List.map_congr_left fun j hj => ?_
        have hj := List.mem_range.mp hj
        have e4 : (4 * (j : Int)).toNat = j * 4 := by omega
        rw [e4]
        unfold prL
        rw [List.map_map]
        simp [List.getD, List.getElem?_range (show j * 4 < 91 by omega)]
      refine q_when (b := false) (et_is (et_test (ev_neLL (as := (List.range 23).map fun j => prT ps bs ds life (j * 4)) (bs := (List.range 23).map fun j => prT ps bs ds life (j * 4)) (by
        rw [List.map_map]
        exact el_lcR3 (lo := 0) (hi := 91) (c := 4) (n := 23) (fun j => V.int (prT ps bs ds life (j * 4))) (ea_cons ev_c (ea_cons ev_c (ea_cons ev_c ea_nil))) ⟨by decide, by decide, by decide +kernel, by decide +kernel⟩ (by decide) (fun _ => rfl) fun i G e hi => evP (t := i * 4) (wn_ex.trans e) (ev_var rfl) (ev_var rfl) (ev_var rfl) (by omega) (by omega)) (by
        rw [← eS]
        exact el_step (ev_var rfl) (sq_of hq)))) (by simp)) (fun hb => nomatch hb) fun _ H10 e10 => ?_
      have hs10 := hs9.mono e10
      have hc10 := ex_l (wn_mono e10) hc9
      have hq10 := e10 _ _ hq
      have eP10 : Ex (wn H9 (hl h l)) (wn H10 (hl h l)) := wn_mono e10
      -- the goal
      refine x_asgI (A := fun i => 0 ≤ i ∧ i < 9000000001) hs10 (xi_drA (cells := cells) (n := 9000000001) (A := fun i => i ∈ ([20, high * 9 + 1] : List Int)) hc10 (fun G => ev_var rfl) (xi_pick (K := K) (n := 2) (ns := [20, high * 9 + 1]) (B := fun i => 0 ≤ i ∧ i < 2) (el_lst (ea_cons ev_c (ea_cons (ev_op (ev_op (ev_var rfl) ev_c (rv_I (wide_ok (by decide)))) ev_c rv_I0) ea_nil)) (by show 2 ≤ 100000; decide)) (xi_dr (cells := cells) hc10 (fun G => ev_var rfl) (xi_ev ev_c rfl) (by decide) (by decide)) (fun i q => by simpa using q)) (fun i q => by simp at q; omega) (by decide)) fun goal H11 d11 hgo => ?_
      have hs11 := d11.hs
      have hc11 := ex_l d11.ex hc10
      have T11 := tabs_dr hs10 d11 (T9.ext e10)
      have eP11 := eP10.trans d11.ex
      have hq11 : H11 q = some (.lst ((prL ps bs ds life 91).map V.int)) := wn_ex _ _ (d11.ex _ _ ((wn_ni nhq).trans hq10))
      -- the numbers of days that reach it, the first one
      have eg : given 91 (fun j => decide (goal ≤ prT ps bs ds life j)) (fun j => V.int (j : Int)) = (((List.range 91).filter fun j => decide (goal ≤ prT ps bs ds life j)).map fun (j : Nat) => (j : Int)).map V.int := by
        unfold given
        rw [List.map_map]; rfl
      refine q_found (K := K) (Z := Z) (goal := goal) (xs := given 91 (fun j => decide (goal ≤ prT ps bs ds life j)) (fun j => V.int (j : Int))) (el_lcR1 (n := 91) (fun j => decide (goal ≤ prT ps bs ds life j)) (fun j => V.int (j : Int)) (ea_cons ev_c ea_nil) ⟨by decide, by decide⟩ (fun _ => rfl)
        (fun i G e hi => et_test (ev_op (ev_ixL (ev_var rfl) (sq_of (e _ _ hq11)) (ev_var rfl) (by
          have z : ((prL ps bs ds life 91).map V.int)[i]? = some (.int (prT ps bs ds life i)) := by
            unfold prL
            rw [List.map_map, List.getElem?_map, List.getElem?_range (by omega)]; rfl
          exact atI_nat z)) (ev_var rfl) rv_I0)) (fun i G e hi _ => ev_var rfl)) (ev_var rfl) (ev_var rfl) (ev_var rfl) hgo.1 (by omega) ((hB9.mono eP11).mono wn_ex) ((hP9.mono eP11).mono wn_ex) hpn fun pg v H12 e12 hg12 hv => ?_
      rw [eg] at hg12
      have hs12 := hs11.mono e12
      have hc12 := ex_l (wn_mono e12) hc11
      have T12 := T11.ext e12
      have eP12 : Ex (wn H9 (hl h l)) (wn H12 (hl h l)) := eP11.trans (wn_mono e12)
      have f1 : ∀ j, j < 91 → prT ps bs ds life j < goal → decide (goal ≤ prT ps bs ds life j) = false := fun j _ z => by simp; omega
      refine q_when (b := false) ?_ (fun hb => nomatch hb) fun _ H13 e13 => ?_
      · rcases hv with ⟨d, hd, rfl, h1, h2⟩ | ⟨rfl, h2⟩
        · refine et_is (et_and (et_test (ev_neLN (bs := []) (ev_var rfl) (sq_of hg12) (el_lst ea_nil (by show 0 ≤ 100000; decide)))) fun hb => et_not (a := true) (et_B (ev_call (ea_cons (ev_var rfl) (ea_cons (ev_ixL (v := .int (d : Int)) (ev_var rfl) (sq_of hg12) ev_c ?_) ea_nil)) (spv_same (n := 1) (.inl (.inl ⟨_, rfl, rfl⟩)))))) (by simp)
          have d90 : d < 91 := by
            by_cases z : d < 91
            · exact z
            · exfalso
              rw [none_in fun j hj => f1 j hj (h2 j (by omega))] at hb
              simp at hb
          have z := first_in (f := fun j => decide (goal ≤ prT ps bs ds life j)) (d := d) (by simpa using h1) (fun j hj => f1 j (by omega) (h2 j hj)) 91 d90
          exact atI_nat (j := 0) (by rw [List.getElem?_map, List.getElem?_map, z]; rfl)
        · refine et_is (et_and (b := false) (et_test (ev_neLN (bs := []) (ev_var rfl) (sq_of hg12) (el_lst ea_nil (by show 0 ≤ 100000; decide)))) fun hb => ?_) (by simp)
          rw [none_in fun j hj => f1 j hj (h2 j (by omega))] at hb
          simp at hb
      have hg13 := e13 _ _ hg12
      refine q_when (b := false) ?_ (fun hb => nomatch hb) fun _ H14 e14 => ?_
      · refine et_is (et_and (b := false) (et_test (ev_eqLN (bs := []) (ev_var rfl) (sq_of hg13) (el_lst ea_nil (by show 0 ≤ 100000; decide)))) fun hb => ?_) (by simp)
        rcases hv with ⟨d, hd, rfl, h1, h2⟩ | ⟨rfl, h2⟩
        · refine et_is (et_and (et_B (ev_notN (ev_var rfl))) fun _ => et_test (ev_op (ev_var rfl) ev_c rv_I0)) ?_
          have d90 : ¬ (d : Int) ≤ 90 := fun z => by
            have z := first_in (f := fun j => decide (goal ≤ prT ps bs ds life j)) (d := d) (by simpa using h1) (fun j hj => f1 j (by omega) (h2 j hj)) 91 (by omega)
            have e0 : (List.range 91).filter (fun j => decide (goal ≤ prT ps bs ds life j)) = [] := by simpa using hb
            rw [e0] at z
            simp at z
          simp [d90]
        · exact et_is (et_and (b := false) (et_B (ev_notN (ev_var rfl))) fun hb => (by simp at hb)) (by simp)
      refine q_when (b := false) ?_ (fun hb => nomatch hb) fun _ H15 e15 => ?_
      · rcases hv with ⟨d, hd, rfl, h1, h2⟩ | ⟨rfl, h2⟩
        · refine et_is (et_and (et_B (ev_notN (ev_var rfl))) fun _ => et_test (ev_op (evP (t := d) ((eP12.trans (wn_mono (e13.trans e14))).trans wn_ex) (ev_var rfl) (ev_var rfl) (ev_var rfl) rfl (by omega)) (ev_var rfl) rv_I0)) ?_
          have : ¬ prT ps bs ds life d < goal := by omega
          simp [this]
        · exact et_is (et_and (b := false) (et_B (ev_notN (ev_var rfl))) fun hb => (by simp at hb)) (by simp)
      have e125 := (e13.trans e14).trans e15
      have hs15 := hs12.mono e125
      have hc15 := ex_l (wn_mono e125) hc12
      have T15 := T12.ext e125
      have eP15 : Ex (wn H9 (hl h l)) (wn H15 (hl h l)) := eP12.trans (wn_mono e125)
      -- far days
      have hB15 := hB9.mono eP15
      have sm := settled_small cm hli.1 hli.2 hB15.hi
      have hss := fun (t : Nat) (ht : grw bs ds (keepL bs life) * (bs.length : Int) + (ix : Int) ≤ (t : Int)) => settled_same cm hB15.hi ht
      generalize hsd : grw bs ds (keepL bs life) * (bs.length : Int) + (ix : Int) = sd at sm hss
      refine x_par (P := fun u _ => u = .int (sd + size)) (Q := fun u _ => ∃ i, u = .int i ∧ (0 ≤ i ∧ i < 1000000000)) hs15 (x_ev (ev_op (ev_prop (ev_var rfl) hB15.inst (fun G e Q q _ => ⟨b, bs, ds, life, ix, rfl, hB15.mono e, by rw [hsd]; exact q⟩)) (ev_var rfl) rv_I0)) (xi_dr (cells := cells) (n := 1000000000) hc15 (fun G => ev_var rfl) (xi_ev (Ev.int_eq (ev_op ev_c ev_c (rv_I ⟨by decide, by decide, by decide⟩)) p9) rfl) (by decide) (by decide)) fun u1 u2 Hd H16 da db eu1 ⟨many, eu2, hmany⟩ => ?_
      subst eu1 eu2
      have d16 := da.trans db
      have hs16 := d16.hs
      have hc16 := ex_l d16.ex hc15
      have T16 := tabs_dr hs15 d16 T15
      have eP16 := eP15.trans d16.ex
      obtain ⟨A, hA'⟩ : ∃ A : Nat, sd + size = (A : Int) := ⟨(sd + size).toNat, by omega⟩
      obtain ⟨M, hM⟩ : ∃ M : Nat, many = (M : Int) := ⟨many.toNat, by omega⟩
      have lbs : (bs.length : Int) = size := by omega
      have ms0 : 0 ≤ many * size := Int.mul_nonneg hmany.1 (by omega)
      have ms1 : many * size ≤ 1000000000 * 6 := Int.le_trans (Int.mul_le_mul_of_nonneg_right (by omega) (by omega)) (Int.mul_le_mul_of_nonneg_left (by omega) (by decide))
      have eAM : sd + size + many * size = ((A + M * bs.length : Nat) : Int) := by rw [Int.natCast_add, Int.natCast_mul, ← hA', ← hM, lbs]
      refine q_asg (v := .int (prT ps bs ds life (A + M * bs.length) - prT ps bs ds life A)) (ev_op (evP (t := A + M * bs.length) (eP16.trans wn_ex) (ev_var rfl) (ev_var rfl) (ev_op (ev_var rfl) (ev_op (ev_var rfl) (ev_var rfl) (rv_I (wide_ok (by omega)))) rv_I0) eAM (by rw [← eAM]; omega)) (evP (t := A) (eP16.trans wn_ex) (ev_var rfl) (ev_var rfl) (ev_var rfl) hA' (by omega)) rv_I0) fun H17 e17 => ?_
      have eP17 : Ex (wn H9 (hl h l)) (wn H17 (hl h l)) := eP16.trans (wn_mono e17)
      have far := pr_long (ps := ps) cm (a := A) (fun t ht => hss t (by omega)) M
      refine q_when (b := false) (et_is (et_and (et_test (ev_op (ev_var rfl) (Ev.int_eq (ev_op ev_c ev_c (rv_I ⟨by decide, by decide, by decide⟩)) p17) rv_I0)) fun _ => et_test (ev_op (ev_var rfl) (ev_op (ev_var rfl) (ev_round (ev_var rfl) (ev_var rfl) ((hB9.mono eP17).mono wn_ex) ((hP9.mono eP17).mono wn_ex) hpn) (rv_I (.inl ⟨by omega, by omega⟩))) (rv_ne rfl))) (by
        have z : prT ps bs ds life (A + M * bs.length) - prT ps bs ds life A = many * prf0 ps bs ds life := by rw [far, hM]; omega
        rw [z]; simp)) (fun hb => nomatch hb) fun _ H18 e18 => ?_
      have hs18 := hs16.mono (e17.trans e18)
      have T18 := (T16.ext e17).ext e18
      have eP18 : Ex (wn H9 (hl h l)) (wn H18 (hl h l)) := eP17.trans (wn_mono e18)
      -- out of range
      refine q_works T18 fun f1 f2 pw H19 eN19 T19 L1 L2 hw19 => ?_
      refine q_works2 T19 (ev_var rfl) hw19 fun f3 pw2 H20 eN20 T20 L3 hw20 => ?_
      have eN := ExtN.tr eN19 eN20
      have L1 := L1.ext eN20
      have L2 := L2.ext eN20
      have hB20 : BakAt K Z H20 b bs ds life ix := bak_ext eN ((hB9.mono eP18).mono wn_ex)
      have hcF : SqL K (Fx h l H18) l (cells.map V.int) := ex_l ((fx_ex (e17.trans e18)).trans (Ex.refl _)) (ex_l (fx_dr d16) (ex_l (fx_ex (e12.trans e125)) (ex_l (fx_dr d11) (ex_l (fx_ex (eP.trans e10)) hcF7))))
      refine s_outs (ev_var rfl) (sq_of hw20) (fun _ => rfl) (fun _ => rfl) (fun G eG Hz N fz f hf => ?_) fun H21 e21 => ⟨⟨_, _, _, _, _, _, _, _, _, _, _, _, _, _, _, _, _, _, _, _, _, _, _, _, rfl⟩, hs_ext (ExtN.tr eN (extN_of e21)) hs18, ex_l (fx_ext (ExtN.tr eN (extN_of e21))) hcF, T20.ext e21⟩
      rcases hf with rfl | rfl | rfl
      · obtain ⟨c1, a1, b1⟩ := L1
        refine lam_cal (N := ["_law_bakery", "_law_prices"]) (ps := []) (fr := ["_law_bakery", "_law_prices"]) (k := 8) (S0 := G) (clo_frz (js := [21, 22]) fz (eG _ _ a1) (eG _ _ b1) rfl (fun y hy e => ndef_free (sc := defScope s_law) (fr := []) (by decide +kernel) y hy e) (ndef_fr (sc := defScope s_law) (by decide +kernel)) rfl) (nscope_by (by dsimp only; decide +kernel)) backsX (fun _ _ us hl => match us, hl with | [], _ => rfl) (fun vs H Q E q => by rw [q.1]; rfl) fz.ex_
          (cl_none fz (fun y hy e => ndef_free (sc := defScope s_law) (fr := []) (by decide +kernel) y hy e)) (fun A outer s H vs Q E hr eS x0 q => ?_)
        obtain ⟨rfl, rr⟩ := q
        refine ⟨_, pe_call (okM_profit T hP) (hr.mono (by decide)) (by rfl) T.g_profit T.F_profit.kp T.b_profit .nil (passes_call (takes_of rfl rfl rfl rfl) (fun _ _ _ _ h => h)) (pa_cons (pv 0) (pa_cons (pv 1) (pa_cons (pe_op op_sub pe_int pe_int) pa_nil))), ?_⟩
        exact q_rz (ea_cons (ev_var rfl) (ea_cons (ev_var rfl) (ea_cons (ev_op ev_c ev_c rv_I0) ea_nil))) fun G1 g1 Q => .inr ⟨b, p, bs, ds, life, ix, 0 - 1, rfl, ((hB20.mono eG).mono x0).mono g1, by omega, by decide, fun G2 g2 => rN_mix rr G2 (g1.trans g2)⟩
      · obtain ⟨c2, t2, a2, b2, i2⟩ := L2
        refine lam_calD (N := ["_law_a", "_law_bakery", "_law_prices"]) (p := "_law_a") (fr := ["_law_bakery", "_law_prices"]) (k := 8) (S0 := G) (clo_frz (js := [21, 22]) fz (eG _ _ a2) (eG _ _ b2) rfl (fun y hy e => ndef_free (sc := defScope s_law) (fr := []) (by decide +kernel) y hy e) (ndef_fr (sc := defScope s_law) (by decide +kernel)) rfl) (fz.ex_ _ _ (eG _ _ i2)) (nscope_by (by dsimp only; decide +kernel)) backsX (fun _ _ u s o n ho hs => BindsTo.of_defaults (T := t2) rfl ho hs rfl rfl) (fun vs H Q E q => q.1) fz.ex_
          (cl_none fz (fun y hy e => ndef_free (sc := defScope s_law) (fr := []) (by decide +kernel) y hy e)) (fun A outer s H Q E hr eS x0 q => ?_)
        obtain ⟨_, rr⟩ := q
        refine ⟨_, pe_call (okM_profit T hP) (hr.mono (by decide)) (by rfl) T.g_profit T.F_profit.kp T.b_profit .nil (passes_call (takes_of rfl rfl rfl rfl) (fun _ _ _ _ h => h)) (pa_cons (pv 1) (pa_cons (pv 2) (pa_cons (pe_op op_add (pe_op op_pow pe_int pe_int) pe_int) pa_nil))), ?_⟩
        exact q_rz (ea_cons (ev_var rfl) (ea_cons (ev_var rfl) (ea_cons (ev_op (Ev.int_eq (ev_op ev_c ev_c (rv_I ⟨by decide, by decide, by decide⟩)) p18) ev_c rv_I0) ea_nil))) fun G1 g1 Q => .inr ⟨b, p, bs, ds, life, ix, 1000000000000000000 + 1, rfl, ((hB20.mono eG).mono x0).mono g1, by omega, by decide, fun G2 g2 => rN_mix rr G2 (g1.trans g2)⟩
      · obtain ⟨c3, t3, a3, b3, i3⟩ := L3
        refine lam_calD (N := ["_law_b", "_law_bakery", "_law_prices"]) (p := "_law_b") (fr := ["_law_bakery", "_law_prices"]) (k := 8) (S0 := G) (clo_frz (js := [21, 22]) fz (eG _ _ a3) (eG _ _ b3) rfl (fun y hy e => ndef_free (sc := defScope s_law) (fr := []) (by decide +kernel) y hy e) (ndef_fr (sc := defScope s_law) (by decide +kernel)) rfl) (fz.ex_ _ _ (eG _ _ i3)) (nscope_by (by dsimp only; decide +kernel)) backsX (fun _ _ u s o n ho hs => BindsTo.of_defaults (T := t3) rfl ho hs rfl rfl) (fun vs H Q E q => q.1) fz.ex_
          (cl_none fz (fun y hy e => ndef_free (sc := defScope s_law) (fr := []) (by decide +kernel) y hy e)) (fun A outer s H Q E hr eS x0 q => ?_)
        obtain ⟨_, rr⟩ := q
        refine ⟨_, pe_call (okM_first_profit T hP) (hr.mono (by decide)) (by rfl) T.g_first_profit T.F_first_profit.kp T.b_first_profit .nil (passes_call (takes_of rfl rfl rfl rfl) (fun _ _ _ _ h => h)) (pa_cons (pv 1) (pa_cons (pv 2) (pa_cons (pe_op op_sub pe_int pe_int) pa_nil))), ?_⟩
        exact q_rz (ea_cons (ev_var rfl) (ea_cons (ev_var rfl) (ea_cons (ev_op ev_c ev_c rv_I0) ea_nil))) fun G1 g1 Q => .inr ⟨.ref b, .ref p, 0 - 1, rfl, by omega, by decide, fun G2 g2 => rN_mix rr G2 (g1.trans g2)⟩
    · exact s_ret ev_c fun H2 _ => k H2
end Sw
namespace Sw
open PySem PySem.Spec PyProof.Rows L2 Evl
theorem all_mk {l : PySem.W.OpenLaw} {w : World} {K : PySem.W.Frag} {h : Heap} {mg : Str → Option Value} {fa c_Course c_Prices c_Bakery c_LoafError c_InvalidNumber f_count_keepable f_sum_repeated f_Course___init__ f_Course_stock_at f_Course_sales_before f_Course_find_settled f_Course_sum_settled_round f_Course__play_round f_Course__stocks_in f_Course__misses_in f_Course__count_growing f_check_number f_check_amounts f_check_life f_check_bakery f_Bakery___init__ f_Bakery_bakes pr_Bakery_bakes f_Bakery_settled_day pr_Bakery_settled_day f_Bakery_long_run pr_Bakery_long_run f_Bakery_totals f_check_price f_Prices___init__ f_Prices_cents pr_Prices_cents f_Prices___call__ f_profit f_round_profit f_first_profit f__law_start f__law_drawn f__law_same f__law_outcome f__law_amounts f__law_sold f__law_closed f_law ka_law tb_law : Addr} (X : K.In h) (G : h.Ns mainGlobals mg) (hfa : mg "law" = some (.ref fa))
    {tk_cv_Bakery_MAX_DAYS : Tok}
    {tk_cv_Bakery_MAX_LIFE : Tok}
    {t_MOST_LOAVES : Tok}
    {t_LAST_DAY : Tok}
    {t_MOST_CENTS : Tok}
    {t_MOST_PROFIT_DAYS : Tok}
    {t_MOST_GOAL : Tok}
    {od_count_keepable an_count_keepable : Option Addr} {sl_count_keepable : Array (Option Value)} {oc_count_keepable kV_count_keepable dc_count_keepable pm_count_keepable cd_count_keepable ct_count_keepable : Value}
    {od_sum_repeated an_sum_repeated : Option Addr} {sl_sum_repeated : Array (Option Value)} {oc_sum_repeated kV_sum_repeated dc_sum_repeated pm_sum_repeated cd_sum_repeated ct_sum_repeated : Value}
    {od_Course___init__ an_Course___init__ : Option Addr} {sl_Course___init__ : Array (Option Value)} {oc_Course___init__ kV_Course___init__ dc_Course___init__ pm_Course___init__ cd_Course___init__ ct_Course___init__ : Value}
    {od_Course_stock_at an_Course_stock_at : Option Addr} {sl_Course_stock_at : Array (Option Value)} {oc_Course_stock_at kV_Course_stock_at dc_Course_stock_at pm_Course_stock_at cd_Course_stock_at ct_Course_stock_at : Value}
    {od_Course_sales_before an_Course_sales_before : Option Addr} {sl_Course_sales_before : Array (Option Value)} {oc_Course_sales_before kV_Course_sales_before dc_Course_sales_before pm_Course_sales_before cd_Course_sales_before ct_Course_sales_before : Value}
    {od_Course_find_settled an_Course_find_settled : Option Addr} {sl_Course_find_settled : Array (Option Value)} {oc_Course_find_settled kV_Course_find_settled dc_Course_find_settled pm_Course_find_settled cd_Course_find_settled ct_Course_find_settled : Value}
    {od_Course_sum_settled_round an_Course_sum_settled_round : Option Addr} {sl_Course_sum_settled_round : Array (Option Value)} {oc_Course_sum_settled_round kV_Course_sum_settled_round dc_Course_sum_settled_round pm_Course_sum_settled_round cd_Course_sum_settled_round ct_Course_sum_settled_round : Value}
    {od_Course__play_round an_Course__play_round : Option Addr} {sl_Course__play_round : Array (Option Value)} {oc_Course__play_round kV_Course__play_round dc_Course__play_round pm_Course__play_round cd_Course__play_round ct_Course__play_round : Value}
    {od_Course__stocks_in an_Course__stocks_in : Option Addr} {sl_Course__stocks_in : Array (Option Value)} {oc_Course__stocks_in kV_Course__stocks_in dc_Course__stocks_in pm_Course__stocks_in cd_Course__stocks_in ct_Course__stocks_in : Value}
    {od_Course__misses_in an_Course__misses_in : Option Addr} {sl_Course__misses_in : Array (Option Value)} {oc_Course__misses_in kV_Course__misses_in dc_Course__misses_in pm_Course__misses_in cd_Course__misses_in ct_Course__misses_in : Value}
    {od_Course__count_growing an_Course__count_growing : Option Addr} {sl_Course__count_growing : Array (Option Value)} {oc_Course__count_growing kV_Course__count_growing dc_Course__count_growing pm_Course__count_growing cd_Course__count_growing ct_Course__count_growing : Value}
    {od_check_number an_check_number : Option Addr} {sl_check_number : Array (Option Value)} {oc_check_number kV_check_number dc_check_number pm_check_number cd_check_number ct_check_number : Value}
    {od_check_amounts an_check_amounts : Option Addr} {sl_check_amounts : Array (Option Value)} {oc_check_amounts kV_check_amounts dc_check_amounts pm_check_amounts cd_check_amounts ct_check_amounts : Value}
    {od_check_life an_check_life : Option Addr} {sl_check_life : Array (Option Value)} {oc_check_life kV_check_life dc_check_life pm_check_life cd_check_life ct_check_life : Value}
    {od_check_bakery an_check_bakery : Option Addr} {sl_check_bakery : Array (Option Value)} {oc_check_bakery kV_check_bakery dc_check_bakery pm_check_bakery cd_check_bakery ct_check_bakery : Value}
    {od_Bakery___init__ an_Bakery___init__ : Option Addr} {sl_Bakery___init__ : Array (Option Value)} {oc_Bakery___init__ kV_Bakery___init__ dc_Bakery___init__ pm_Bakery___init__ cd_Bakery___init__ ct_Bakery___init__ : Value}
    {od_Bakery_bakes an_Bakery_bakes : Option Addr} {sl_Bakery_bakes : Array (Option Value)} {oc_Bakery_bakes kV_Bakery_bakes dc_Bakery_bakes pm_Bakery_bakes cd_Bakery_bakes ct_Bakery_bakes : Value}
    {rs_Bakery_bakes : List Value}
    {od_Bakery_settled_day an_Bakery_settled_day : Option Addr} {sl_Bakery_settled_day : Array (Option Value)} {oc_Bakery_settled_day kV_Bakery_settled_day dc_Bakery_settled_day pm_Bakery_settled_day cd_Bakery_settled_day ct_Bakery_settled_day : Value}
    {rs_Bakery_settled_day : List Value}
    {od_Bakery_long_run an_Bakery_long_run : Option Addr} {sl_Bakery_long_run : Array (Option Value)} {oc_Bakery_long_run kV_Bakery_long_run dc_Bakery_long_run pm_Bakery_long_run cd_Bakery_long_run ct_Bakery_long_run : Value}
    {rs_Bakery_long_run : List Value}
    {od_Bakery_totals an_Bakery_totals : Option Addr} {sl_Bakery_totals : Array (Option Value)} {oc_Bakery_totals kV_Bakery_totals dc_Bakery_totals pm_Bakery_totals cd_Bakery_totals ct_Bakery_totals : Value}
    {od_check_price an_check_price : Option Addr} {sl_check_price : Array (Option Value)} {oc_check_price kV_check_price dc_check_price pm_check_price cd_check_price ct_check_price : Value}
    {od_Prices___init__ an_Prices___init__ : Option Addr} {sl_Prices___init__ : Array (Option Value)} {oc_Prices___init__ kV_Prices___init__ dc_Prices___init__ pm_Prices___init__ cd_Prices___init__ ct_Prices___init__ : Value}
    {od_Prices_cents an_Prices_cents : Option Addr} {sl_Prices_cents : Array (Option Value)} {oc_Prices_cents kV_Prices_cents dc_Prices_cents pm_Prices_cents cd_Prices_cents ct_Prices_cents : Value}
    {rs_Prices_cents : List Value}
    {od_Prices___call__ an_Prices___call__ : Option Addr} {sl_Prices___call__ : Array (Option Value)} {oc_Prices___call__ kV_Prices___call__ dc_Prices___call__ pm_Prices___call__ cd_Prices___call__ ct_Prices___call__ : Value}
    {od_profit an_profit : Option Addr} {sl_profit : Array (Option Value)} {oc_profit kV_profit dc_profit pm_profit cd_profit ct_profit : Value}
    {od_round_profit an_round_profit : Option Addr} {sl_round_profit : Array (Option Value)} {oc_round_profit kV_round_profit dc_round_profit pm_round_profit cd_round_profit ct_round_profit : Value}
    {od_first_profit an_first_profit : Option Addr} {sl_first_profit : Array (Option Value)} {oc_first_profit kV_first_profit dc_first_profit pm_first_profit cd_first_profit ct_first_profit : Value}
    {od__law_start an__law_start : Option Addr} {sl__law_start : Array (Option Value)} {oc__law_start kV__law_start dc__law_start pm__law_start cd__law_start ct__law_start : Value}
    {od__law_drawn an__law_drawn : Option Addr} {sl__law_drawn : Array (Option Value)} {oc__law_drawn kV__law_drawn dc__law_drawn pm__law_drawn cd__law_drawn ct__law_drawn : Value}
    {od__law_same an__law_same : Option Addr} {sl__law_same : Array (Option Value)} {oc__law_same kV__law_same dc__law_same pm__law_same cd__law_same ct__law_same : Value}
    {od__law_outcome an__law_outcome : Option Addr} {sl__law_outcome : Array (Option Value)} {oc__law_outcome kV__law_outcome dc__law_outcome pm__law_outcome cd__law_outcome ct__law_outcome : Value}
    {od__law_amounts an__law_amounts : Option Addr} {sl__law_amounts : Array (Option Value)} {oc__law_amounts kV__law_amounts dc__law_amounts pm__law_amounts cd__law_amounts ct__law_amounts : Value}
    {od__law_sold an__law_sold : Option Addr} {sl__law_sold : Array (Option Value)} {oc__law_sold kV__law_sold dc__law_sold pm__law_sold cd__law_sold ct__law_sold : Value}
    {od__law_closed an__law_closed : Option Addr} {sl__law_closed : Array (Option Value)} {oc__law_closed kV__law_closed dc__law_closed pm__law_closed cd__law_closed ct__law_closed : Value}
    {od_law an_law : Option Addr} {sl_law : Array (Option Value)} {oc_law kV_law dc_law pm_law ct_law : Value}
    {oe_law : Value} {oo_law : Option Addr} {vc_law : Array Value} {os_law : Array (Option Value)}
    (g_Course : PySem.W.nsIn K mainGlobals "Course" = some (some (.ref c_Course)))
    (pg_Course : PySem.W.plainGet K c_Course Str.empty = true)
    (hd_Course : PySem.W.hasDictIn K c_Course = true)
    (po_Course : PySem.W.plainOver K c_Course = true)
    (sa_Course : PySem.W.findIn K (.ref c_Course) "__setattr__" = some (some (.builtin "object.__setattr__")))
    (mk_Course : PySem.W.makesIn K c_Course = true)
    (kc_Course : PySem.W.keepIn K (.ref c_Course) = true)
    (g_Prices : PySem.W.nsIn K mainGlobals "Prices" = some (some (.ref c_Prices)))
    (pg_Prices : PySem.W.plainGet K c_Prices Str.empty = true)
    (hd_Prices : PySem.W.hasDictIn K c_Prices = true)
    (po_Prices : PySem.W.plainOver K c_Prices = true)
    (sa_Prices : PySem.W.findIn K (.ref c_Prices) "__setattr__" = some (some (.builtin "object.__setattr__")))
    (mk_Prices : PySem.W.makesIn K c_Prices = true)
    (kc_Prices : PySem.W.keepIn K (.ref c_Prices) = true)
    (g_Bakery : PySem.W.nsIn K mainGlobals "Bakery" = some (some (.ref c_Bakery)))
    (pg_Bakery : PySem.W.plainGet K c_Bakery Str.empty = true)
    (hd_Bakery : PySem.W.hasDictIn K c_Bakery = true)
    (po_Bakery : PySem.W.plainOver K c_Bakery = true)
    (sa_Bakery : PySem.W.findIn K (.ref c_Bakery) "__setattr__" = some (some (.builtin "object.__setattr__")))
    (mk_Bakery : PySem.W.makesIn K c_Bakery = true)
    (kc_Bakery : PySem.W.keepIn K (.ref c_Bakery) = true)
    (na_Course__bakes : PySem.W.findIn K (.ref c_Course) "_bakes" = some none)
    (na_Course__demands : PySem.W.findIn K (.ref c_Course) "_demands" = some none)
    (na_Course__keepable : PySem.W.findIn K (.ref c_Course) "_keepable" = some none)
    (na_Course__gain : PySem.W.findIn K (.ref c_Course) "_gain" = some none)
    (na_Course__first_end : PySem.W.findIn K (.ref c_Course) "_first_end" = some none)
    (na_Course__full_end : PySem.W.findIn K (.ref c_Course) "_full_end" = some none)
    (na_Course__first_misses : PySem.W.findIn K (.ref c_Course) "_first_misses" = some none)
    (na_Course__later_misses : PySem.W.findIn K (.ref c_Course) "_later_misses" = some none)
    (na_Prices__cents : PySem.W.findIn K (.ref c_Prices) "_cents" = some none)
    (na_Bakery__bakes : PySem.W.findIn K (.ref c_Bakery) "_bakes" = some none)
    (na_Bakery__demands : PySem.W.findIn K (.ref c_Bakery) "_demands" = some none)
    (na_Bakery__life : PySem.W.findIn K (.ref c_Bakery) "_life" = some none)
    (na_Bakery_course : PySem.W.findIn K (.ref c_Bakery) "course" = some none)
    (na_Bakery__settled_day : PySem.W.findIn K (.ref c_Bakery) "_settled_day" = some none)
    (na_Bakery__long_run : PySem.W.findIn K (.ref c_Bakery) "_long_run" = some none)
    (rd_Bakery : PySem.W.readsIn K c_Bakery (.type "type") = true)
    (gt_Bakery : PySem.W.specialIn K (.ref c_Bakery) "__getattribute__" = some (some (.builtin "type.__getattribute__")))
    (cv_Bakery_MAX_DAYS : PySem.W.findCls K (.ref c_Bakery) (.type "type") "MAX_DAYS" = some (.val (.int 24 tk_cv_Bakery_MAX_DAYS)))
    (cv_Bakery_MAX_LIFE : PySem.W.findCls K (.ref c_Bakery) (.type "type") "MAX_LIFE" = some (.val (.int 30 tk_cv_Bakery_MAX_LIFE)))
    (g_MOST_LOAVES : PySem.W.nsIn K mainGlobals "MOST_LOAVES" = some (some (.int 1000000000 t_MOST_LOAVES)))
    (g_LAST_DAY : PySem.W.nsIn K mainGlobals "LAST_DAY" = some (some (.int 1000000000000000000 t_LAST_DAY)))
    (g_MOST_CENTS : PySem.W.nsIn K mainGlobals "MOST_CENTS" = some (some (.int 1000000 t_MOST_CENTS)))
    (g_MOST_PROFIT_DAYS : PySem.W.nsIn K mainGlobals "MOST_PROFIT_DAYS" = some (some (.int 1000 t_MOST_PROFIT_DAYS)))
    (g_MOST_GOAL : PySem.W.nsIn K mainGlobals "MOST_GOAL" = some (some (.int 1000000000000000000 t_MOST_GOAL)))
    (b_bool : PySem.W.nsIn K mainGlobals "bool" = some none)
    (b_divmod : PySem.W.nsIn K mainGlobals "divmod" = some none)
    (b_enumerate : PySem.W.nsIn K mainGlobals "enumerate" = some none)
    (b_int : PySem.W.nsIn K mainGlobals "int" = some none)
    (b_isinstance : PySem.W.nsIn K mainGlobals "isinstance" = some none)
    (b_len : PySem.W.nsIn K mainGlobals "len" = some none)
    (b_list : PySem.W.nsIn K mainGlobals "list" = some none)
    (b_max : PySem.W.nsIn K mainGlobals "max" = some none)
    (b_min : PySem.W.nsIn K mainGlobals "min" = some none)
    (b_range : PySem.W.nsIn K mainGlobals "range" = some none)
    (b_sum : PySem.W.nsIn K mainGlobals "sum" = some none)
    (b_super : PySem.W.nsIn K mainGlobals "super" = some none)
    (b_tuple : PySem.W.nsIn K mainGlobals "tuple" = some none)
    (b_zip : PySem.W.nsIn K mainGlobals "zip" = some none)
    (g_LoafError : PySem.W.nsIn K mainGlobals "LoafError" = some (some (.ref c_LoafError)))
    (g_InvalidNumber : PySem.W.nsIn K mainGlobals "InvalidNumber" = some (some (.ref c_InvalidNumber)))
    (xe_base : PySem.W.subIn K (.ref c_LoafError) (.type "BaseException") = some true)
    (xe_dict : PySem.W.hasDictIn K c_LoafError = true)
    (xe_type : PySem.W.typeIn K (.ref c_LoafError) = some (.type "type"))
    (xe_any : PySem.W.nsIn K cStatics "thirdparty.any" = some none)
    (xe_top : (l.prog.main.scope.names.lookup ("super" : Str)).isSome = false)
    (xe_cg : PySem.W.specialIn K (.builtin "object.__class__") "__get__" = some (some (.builtin "getset_descriptor.__get__")))
    (xe_ct : PySem.W.takesIn K (.builtin "object.__class__") = some true)
    (xp_InvalidNumber : PySem.W.excIn K c_InvalidNumber [.type "ValueError", .type "Exception", .type "BaseException", .type "object"] "ValueError.__new__" = true)
    (xq_InvalidNumber : PySem.W.keepIn K (.ref c_InvalidNumber) = true)
    (xb_InvalidNumber : PySem.W.subIn K (.ref c_InvalidNumber) (.type "BaseException") = some true)
    (xy_InvalidNumber : PySem.W.typeIn K (.ref c_InvalidNumber) = some (.type "type"))
    (xv_InvalidNumber : PySem.W.kitOne K (.ref c_InvalidNumber) (.type "ValueError") = some true)
    (xk_InvalidNumber_InvalidNumber : PySem.W.kitOne K (.ref c_InvalidNumber) (.ref c_InvalidNumber) = some true)
    (xhd_InvalidNumber : PySem.W.hasDictIn K c_InvalidNumber = true)
    (xic_InvalidNumber : PySem.W.isClsIn K c_InvalidNumber = true)
    (xga_InvalidNumber : PySem.W.findIn K (.ref c_InvalidNumber) "__getattribute__" = some (some (.builtin "BaseException.__getattribute__")))
    (xgg_InvalidNumber : PySem.W.findIn K (.ref c_InvalidNumber) "__getattr__" = some none)
    (xca_InvalidNumber : PySem.W.findIn K (.ref c_InvalidNumber) "__class__" = some (some (.builtin "object.__class__")))
    (xmo_InvalidNumber : PySem.W.mroIn K c_InvalidNumber (.type "object") = some true)
    (sL_InvalidNumber : PySem.W.subIn K (.ref c_InvalidNumber) (.ref c_LoafError) = some true)
    (eb_InvalidNumber : PySem.W.subIn K (.ref c_InvalidNumber) (.type "BaseException") = some true)
    (ed_InvalidNumber : PySem.W.hasDictIn K c_InvalidNumber = true)
    (et_InvalidNumber : PySem.W.typeIn K (.ref c_InvalidNumber) = some (.type "type"))
    (es_InvalidNumber_InvalidNumber : PySem.W.subIn K (.ref c_InvalidNumber) (.ref c_InvalidNumber) = some true)
    (a_count_keepable : PySem.W.nsIn K mainGlobals "count_keepable" = some (some (.ref f_count_keepable)))
    (l_count_keepable : K.lookup f_count_keepable = some ⟨oc_count_keepable, od_count_keepable, .func (PySem.W.fnOf "count_keepable" "count_keepable" (defArgs s_count_keepable) (defBody s_count_keepable) (defScope s_count_keepable) .none kV_count_keepable dc_count_keepable pm_count_keepable an_count_keepable cd_count_keepable ct_count_keepable), sl_count_keepable⟩)
    (q_count_keepable : PySem.W.codeIn K cd_count_keepable "count_keepable" = true)
    (k_count_keepable : PySem.W.keepIn K (.ref f_count_keepable) = true)
    (a_sum_repeated : PySem.W.nsIn K mainGlobals "sum_repeated" = some (some (.ref f_sum_repeated)))
    (l_sum_repeated : K.lookup f_sum_repeated = some ⟨oc_sum_repeated, od_sum_repeated, .func (PySem.W.fnOf "sum_repeated" "sum_repeated" (defArgs s_sum_repeated) (defBody s_sum_repeated) (defScope s_sum_repeated) .none kV_sum_repeated dc_sum_repeated pm_sum_repeated an_sum_repeated cd_sum_repeated ct_sum_repeated), sl_sum_repeated⟩)
    (q_sum_repeated : PySem.W.codeIn K cd_sum_repeated "sum_repeated" = true)
    (k_sum_repeated : PySem.W.keepIn K (.ref f_sum_repeated) = true)
    (a_Course___init__ : PySem.W.findIn K (.ref c_Course) "__init__" = some (some (.ref f_Course___init__)))
    (i_Course___init__ : PySem.W.isFn K (.ref f_Course___init__) = true)
    (l_Course___init__ : K.lookup f_Course___init__ = some ⟨oc_Course___init__, od_Course___init__, .func (PySem.W.fnOf "__init__" "Course.__init__" (defArgs s_Course___init__) (defBody s_Course___init__) (defScope s_Course___init__) .none kV_Course___init__ dc_Course___init__ pm_Course___init__ an_Course___init__ cd_Course___init__ ct_Course___init__), sl_Course___init__⟩)
    (q_Course___init__ : PySem.W.codeIn K cd_Course___init__ "Course.__init__" = true)
    (k_Course___init__ : PySem.W.keepIn K (.ref f_Course___init__) = true)
    (a_Course_stock_at : PySem.W.findIn K (.ref c_Course) "stock_at" = some (some (.ref f_Course_stock_at)))
    (i_Course_stock_at : PySem.W.isFn K (.ref f_Course_stock_at) = true)
    (l_Course_stock_at : K.lookup f_Course_stock_at = some ⟨oc_Course_stock_at, od_Course_stock_at, .func (PySem.W.fnOf "stock_at" "Course.stock_at" (defArgs s_Course_stock_at) (defBody s_Course_stock_at) (defScope s_Course_stock_at) .none kV_Course_stock_at dc_Course_stock_at pm_Course_stock_at an_Course_stock_at cd_Course_stock_at ct_Course_stock_at), sl_Course_stock_at⟩)
    (q_Course_stock_at : PySem.W.codeIn K cd_Course_stock_at "Course.stock_at" = true)
    (k_Course_stock_at : PySem.W.keepIn K (.ref f_Course_stock_at) = true)
    (a_Course_sales_before : PySem.W.findIn K (.ref c_Course) "sales_before" = some (some (.ref f_Course_sales_before)))
    (i_Course_sales_before : PySem.W.isFn K (.ref f_Course_sales_before) = true)
    (l_Course_sales_before : K.lookup f_Course_sales_before = some ⟨oc_Course_sales_before, od_Course_sales_before, .func (PySem.W.fnOf "sales_before" "Course.sales_before" (defArgs s_Course_sales_before) (defBody s_Course_sales_before) (defScope s_Course_sales_before) .none kV_Course_sales_before dc_Course_sales_before pm_Course_sales_before an_Course_sales_before cd_Course_sales_before ct_Course_sales_before), sl_Course_sales_before⟩)
    (q_Course_sales_before : PySem.W.codeIn K cd_Course_sales_before "Course.sales_before" = true)
    (k_Course_sales_before : PySem.W.keepIn K (.ref f_Course_sales_before) = true)
    (a_Course_find_settled : PySem.W.findIn K (.ref c_Course) "find_settled" = some (some (.ref f_Course_find_settled)))
    (i_Course_find_settled : PySem.W.isFn K (.ref f_Course_find_settled) = true)
    (l_Course_find_settled : K.lookup f_Course_find_settled = some ⟨oc_Course_find_settled, od_Course_find_settled, .func (PySem.W.fnOf "find_settled" "Course.find_settled" (defArgs s_Course_find_settled) (defBody s_Course_find_settled) (defScope s_Course_find_settled) .none kV_Course_find_settled dc_Course_find_settled pm_Course_find_settled an_Course_find_settled cd_Course_find_settled ct_Course_find_settled), sl_Course_find_settled⟩)
    (q_Course_find_settled : PySem.W.codeIn K cd_Course_find_settled "Course.find_settled" = true)
    (k_Course_find_settled : PySem.W.keepIn K (.ref f_Course_find_settled) = true)
    (a_Course_sum_settled_round : PySem.W.findIn K (.ref c_Course) "sum_settled_round" = some (some (.ref f_Course_sum_settled_round)))
    (i_Course_sum_settled_round : PySem.W.isFn K (.ref f_Course_sum_settled_round) = true)
    (l_Course_sum_settled_round : K.lookup f_Course_sum_settled_round = some ⟨oc_Course_sum_settled_round, od_Course_sum_settled_round, .func (PySem.W.fnOf "sum_settled_round" "Course.sum_settled_round" (defArgs s_Course_sum_settled_round) (defBody s_Course_sum_settled_round) (defScope s_Course_sum_settled_round) .none kV_Course_sum_settled_round dc_Course_sum_settled_round pm_Course_sum_settled_round an_Course_sum_settled_round cd_Course_sum_settled_round ct_Course_sum_settled_round), sl_Course_sum_settled_round⟩)
    (q_Course_sum_settled_round : PySem.W.codeIn K cd_Course_sum_settled_round "Course.sum_settled_round" = true)
    (k_Course_sum_settled_round : PySem.W.keepIn K (.ref f_Course_sum_settled_round) = true)
    (a_Course__play_round : PySem.W.findIn K (.ref c_Course) "_play_round" = some (some (.ref f_Course__play_round)))
    (i_Course__play_round : PySem.W.isFn K (.ref f_Course__play_round) = true)
    (l_Course__play_round : K.lookup f_Course__play_round = some ⟨oc_Course__play_round, od_Course__play_round, .func (PySem.W.fnOf "_play_round" "Course._play_round" (defArgs s_Course__play_round) (defBody s_Course__play_round) (defScope s_Course__play_round) .none kV_Course__play_round dc_Course__play_round pm_Course__play_round an_Course__play_round cd_Course__play_round ct_Course__play_round), sl_Course__play_round⟩)
    (q_Course__play_round : PySem.W.codeIn K cd_Course__play_round "Course._play_round" = true)
    (k_Course__play_round : PySem.W.keepIn K (.ref f_Course__play_round) = true)
    (a_Course__stocks_in : PySem.W.findIn K (.ref c_Course) "_stocks_in" = some (some (.ref f_Course__stocks_in)))
    (i_Course__stocks_in : PySem.W.isFn K (.ref f_Course__stocks_in) = true)
    (l_Course__stocks_in : K.lookup f_Course__stocks_in = some ⟨oc_Course__stocks_in, od_Course__stocks_in, .func (PySem.W.fnOf "_stocks_in" "Course._stocks_in" (defArgs s_Course__stocks_in) (defBody s_Course__stocks_in) (defScope s_Course__stocks_in) .none kV_Course__stocks_in dc_Course__stocks_in pm_Course__stocks_in an_Course__stocks_in cd_Course__stocks_in ct_Course__stocks_in), sl_Course__stocks_in⟩)
    (q_Course__stocks_in : PySem.W.codeIn K cd_Course__stocks_in "Course._stocks_in" = true)
    (k_Course__stocks_in : PySem.W.keepIn K (.ref f_Course__stocks_in) = true)
    (a_Course__misses_in : PySem.W.findIn K (.ref c_Course) "_misses_in" = some (some (.ref f_Course__misses_in)))
    (i_Course__misses_in : PySem.W.isFn K (.ref f_Course__misses_in) = true)
    (l_Course__misses_in : K.lookup f_Course__misses_in = some ⟨oc_Course__misses_in, od_Course__misses_in, .func (PySem.W.fnOf "_misses_in" "Course._misses_in" (defArgs s_Course__misses_in) (defBody s_Course__misses_in) (defScope s_Course__misses_in) .none kV_Course__misses_in dc_Course__misses_in pm_Course__misses_in an_Course__misses_in cd_Course__misses_in ct_Course__misses_in), sl_Course__misses_in⟩)
    (q_Course__misses_in : PySem.W.codeIn K cd_Course__misses_in "Course._misses_in" = true)
    (k_Course__misses_in : PySem.W.keepIn K (.ref f_Course__misses_in) = true)
    (a_Course__count_growing : PySem.W.findIn K (.ref c_Course) "_count_growing" = some (some (.ref f_Course__count_growing)))
    (i_Course__count_growing : PySem.W.isFn K (.ref f_Course__count_growing) = true)
    (l_Course__count_growing : K.lookup f_Course__count_growing = some ⟨oc_Course__count_growing, od_Course__count_growing, .func (PySem.W.fnOf "_count_growing" "Course._count_growing" (defArgs s_Course__count_growing) (defBody s_Course__count_growing) (defScope s_Course__count_growing) .none kV_Course__count_growing dc_Course__count_growing pm_Course__count_growing an_Course__count_growing cd_Course__count_growing ct_Course__count_growing), sl_Course__count_growing⟩)
    (q_Course__count_growing : PySem.W.codeIn K cd_Course__count_growing "Course._count_growing" = true)
    (k_Course__count_growing : PySem.W.keepIn K (.ref f_Course__count_growing) = true)
    (a_check_number : PySem.W.nsIn K mainGlobals "check_number" = some (some (.ref f_check_number)))
    (l_check_number : K.lookup f_check_number = some ⟨oc_check_number, od_check_number, .func (PySem.W.fnOf "check_number" "check_number" (defArgs s_check_number) (defBody s_check_number) (defScope s_check_number) .none kV_check_number dc_check_number pm_check_number an_check_number cd_check_number ct_check_number), sl_check_number⟩)
    (q_check_number : PySem.W.codeIn K cd_check_number "check_number" = true)
    (k_check_number : PySem.W.keepIn K (.ref f_check_number) = true)
    (a_check_amounts : PySem.W.nsIn K mainGlobals "check_amounts" = some (some (.ref f_check_amounts)))
    (l_check_amounts : K.lookup f_check_amounts = some ⟨oc_check_amounts, od_check_amounts, .func (PySem.W.fnOf "check_amounts" "check_amounts" (defArgs s_check_amounts) (defBody s_check_amounts) (defScope s_check_amounts) .none kV_check_amounts dc_check_amounts pm_check_amounts an_check_amounts cd_check_amounts ct_check_amounts), sl_check_amounts⟩)
    (q_check_amounts : PySem.W.codeIn K cd_check_amounts "check_amounts" = true)
    (k_check_amounts : PySem.W.keepIn K (.ref f_check_amounts) = true)
    (a_check_life : PySem.W.nsIn K mainGlobals "check_life" = some (some (.ref f_check_life)))
    (l_check_life : K.lookup f_check_life = some ⟨oc_check_life, od_check_life, .func (PySem.W.fnOf "check_life" "check_life" (defArgs s_check_life) (defBody s_check_life) (defScope s_check_life) .none kV_check_life dc_check_life pm_check_life an_check_life cd_check_life ct_check_life), sl_check_life⟩)
    (q_check_life : PySem.W.codeIn K cd_check_life "check_life" = true)
    (k_check_life : PySem.W.keepIn K (.ref f_check_life) = true)
    (a_check_bakery : PySem.W.nsIn K mainGlobals "check_bakery" = some (some (.ref f_check_bakery)))
    (l_check_bakery : K.lookup f_check_bakery = some ⟨oc_check_bakery, od_check_bakery, .func (PySem.W.fnOf "check_bakery" "check_bakery" (defArgs s_check_bakery) (defBody s_check_bakery) (defScope s_check_bakery) .none kV_check_bakery dc_check_bakery pm_check_bakery an_check_bakery cd_check_bakery ct_check_bakery), sl_check_bakery⟩)
    (q_check_bakery : PySem.W.codeIn K cd_check_bakery "check_bakery" = true)
    (k_check_bakery : PySem.W.keepIn K (.ref f_check_bakery) = true)
    (a_Bakery___init__ : PySem.W.findIn K (.ref c_Bakery) "__init__" = some (some (.ref f_Bakery___init__)))
    (i_Bakery___init__ : PySem.W.isFn K (.ref f_Bakery___init__) = true)
    (l_Bakery___init__ : K.lookup f_Bakery___init__ = some ⟨oc_Bakery___init__, od_Bakery___init__, .func (PySem.W.fnOf "__init__" "Bakery.__init__" (defArgs s_Bakery___init__) (defBody s_Bakery___init__) (defScope s_Bakery___init__) .none kV_Bakery___init__ dc_Bakery___init__ pm_Bakery___init__ an_Bakery___init__ cd_Bakery___init__ ct_Bakery___init__), sl_Bakery___init__⟩)
    (q_Bakery___init__ : PySem.W.codeIn K cd_Bakery___init__ "Bakery.__init__" = true)
    (k_Bakery___init__ : PySem.W.keepIn K (.ref f_Bakery___init__) = true)
    (a_Bakery_bakes : PySem.W.findIn K (.ref c_Bakery) "bakes" = some (some (.ref pr_Bakery_bakes)))
    (pg_Bakery_bakes : PySem.W.specialIn K (.ref pr_Bakery_bakes) "__get__" = some (some (.builtin "property.__get__")))
    (pt_Bakery_bakes : PySem.W.takesIn K (.ref pr_Bakery_bakes) = some true)
    (pr1_Bakery_bakes : PySem.W.recIn K pr_Bakery_bakes "property" = some (.ref f_Bakery_bakes :: rs_Bakery_bakes))
    (l_Bakery_bakes : K.lookup f_Bakery_bakes = some ⟨oc_Bakery_bakes, od_Bakery_bakes, .func (PySem.W.fnOf "bakes" "Bakery.bakes" (defArgs s_Bakery_bakes) (defBody s_Bakery_bakes) (defScope s_Bakery_bakes) .none kV_Bakery_bakes dc_Bakery_bakes pm_Bakery_bakes an_Bakery_bakes cd_Bakery_bakes ct_Bakery_bakes), sl_Bakery_bakes⟩)
    (q_Bakery_bakes : PySem.W.codeIn K cd_Bakery_bakes "Bakery.bakes" = true)
    (k_Bakery_bakes : PySem.W.keepIn K (.ref f_Bakery_bakes) = true)
    (a_Bakery_settled_day : PySem.W.findIn K (.ref c_Bakery) "settled_day" = some (some (.ref pr_Bakery_settled_day)))
    (pg_Bakery_settled_day : PySem.W.specialIn K (.ref pr_Bakery_settled_day) "__get__" = some (some (.builtin "property.__get__")))
    (pt_Bakery_settled_day : PySem.W.takesIn K (.ref pr_Bakery_settled_day) = some true)
    (pr1_Bakery_settled_day : PySem.W.recIn K pr_Bakery_settled_day "property" = some (.ref f_Bakery_settled_day :: rs_Bakery_settled_day))
    (l_Bakery_settled_day : K.lookup f_Bakery_settled_day = some ⟨oc_Bakery_settled_day, od_Bakery_settled_day, .func (PySem.W.fnOf "settled_day" "Bakery.settled_day" (defArgs s_Bakery_settled_day) (defBody s_Bakery_settled_day) (defScope s_Bakery_settled_day) .none kV_Bakery_settled_day dc_Bakery_settled_day pm_Bakery_settled_day an_Bakery_settled_day cd_Bakery_settled_day ct_Bakery_settled_day), sl_Bakery_settled_day⟩)
    (q_Bakery_settled_day : PySem.W.codeIn K cd_Bakery_settled_day "Bakery.settled_day" = true)
    (k_Bakery_settled_day : PySem.W.keepIn K (.ref f_Bakery_settled_day) = true)
    (a_Bakery_long_run : PySem.W.findIn K (.ref c_Bakery) "long_run" = some (some (.ref pr_Bakery_long_run)))
    (pg_Bakery_long_run : PySem.W.specialIn K (.ref pr_Bakery_long_run) "__get__" = some (some (.builtin "property.__get__")))
    (pt_Bakery_long_run : PySem.W.takesIn K (.ref pr_Bakery_long_run) = some true)
    (pr1_Bakery_long_run : PySem.W.recIn K pr_Bakery_long_run "property" = some (.ref f_Bakery_long_run :: rs_Bakery_long_run))
    (l_Bakery_long_run : K.lookup f_Bakery_long_run = some ⟨oc_Bakery_long_run, od_Bakery_long_run, .func (PySem.W.fnOf "long_run" "Bakery.long_run" (defArgs s_Bakery_long_run) (defBody s_Bakery_long_run) (defScope s_Bakery_long_run) .none kV_Bakery_long_run dc_Bakery_long_run pm_Bakery_long_run an_Bakery_long_run cd_Bakery_long_run ct_Bakery_long_run), sl_Bakery_long_run⟩)
    (q_Bakery_long_run : PySem.W.codeIn K cd_Bakery_long_run "Bakery.long_run" = true)
    (k_Bakery_long_run : PySem.W.keepIn K (.ref f_Bakery_long_run) = true)
    (a_Bakery_totals : PySem.W.findIn K (.ref c_Bakery) "totals" = some (some (.ref f_Bakery_totals)))
    (i_Bakery_totals : PySem.W.isFn K (.ref f_Bakery_totals) = true)
    (l_Bakery_totals : K.lookup f_Bakery_totals = some ⟨oc_Bakery_totals, od_Bakery_totals, .func (PySem.W.fnOf "totals" "Bakery.totals" (defArgs s_Bakery_totals) (defBody s_Bakery_totals) (defScope s_Bakery_totals) .none kV_Bakery_totals dc_Bakery_totals pm_Bakery_totals an_Bakery_totals cd_Bakery_totals ct_Bakery_totals), sl_Bakery_totals⟩)
    (q_Bakery_totals : PySem.W.codeIn K cd_Bakery_totals "Bakery.totals" = true)
    (k_Bakery_totals : PySem.W.keepIn K (.ref f_Bakery_totals) = true)
    (a_check_price : PySem.W.nsIn K mainGlobals "check_price" = some (some (.ref f_check_price)))
    (l_check_price : K.lookup f_check_price = some ⟨oc_check_price, od_check_price, .func (PySem.W.fnOf "check_price" "check_price" (defArgs s_check_price) (defBody s_check_price) (defScope s_check_price) .none kV_check_price dc_check_price pm_check_price an_check_price cd_check_price ct_check_price), sl_check_price⟩)
    (q_check_price : PySem.W.codeIn K cd_check_price "check_price" = true)
    (k_check_price : PySem.W.keepIn K (.ref f_check_price) = true)
    (a_Prices___init__ : PySem.W.findIn K (.ref c_Prices) "__init__" = some (some (.ref f_Prices___init__)))
    (i_Prices___init__ : PySem.W.isFn K (.ref f_Prices___init__) = true)
    (l_Prices___init__ : K.lookup f_Prices___init__ = some ⟨oc_Prices___init__, od_Prices___init__, .func (PySem.W.fnOf "__init__" "Prices.__init__" (defArgs s_Prices___init__) (defBody s_Prices___init__) (defScope s_Prices___init__) .none kV_Prices___init__ dc_Prices___init__ pm_Prices___init__ an_Prices___init__ cd_Prices___init__ ct_Prices___init__), sl_Prices___init__⟩)
    (q_Prices___init__ : PySem.W.codeIn K cd_Prices___init__ "Prices.__init__" = true)
    (k_Prices___init__ : PySem.W.keepIn K (.ref f_Prices___init__) = true)
    (a_Prices_cents : PySem.W.findIn K (.ref c_Prices) "cents" = some (some (.ref pr_Prices_cents)))
    (pg_Prices_cents : PySem.W.specialIn K (.ref pr_Prices_cents) "__get__" = some (some (.builtin "property.__get__")))
    (pt_Prices_cents : PySem.W.takesIn K (.ref pr_Prices_cents) = some true)
    (pr1_Prices_cents : PySem.W.recIn K pr_Prices_cents "property" = some (.ref f_Prices_cents :: rs_Prices_cents))
    (l_Prices_cents : K.lookup f_Prices_cents = some ⟨oc_Prices_cents, od_Prices_cents, .func (PySem.W.fnOf "cents" "Prices.cents" (defArgs s_Prices_cents) (defBody s_Prices_cents) (defScope s_Prices_cents) .none kV_Prices_cents dc_Prices_cents pm_Prices_cents an_Prices_cents cd_Prices_cents ct_Prices_cents), sl_Prices_cents⟩)
    (q_Prices_cents : PySem.W.codeIn K cd_Prices_cents "Prices.cents" = true)
    (k_Prices_cents : PySem.W.keepIn K (.ref f_Prices_cents) = true)
    (a_Prices___call__ : PySem.W.findIn K (.ref c_Prices) "__call__" = some (some (.ref f_Prices___call__)))
    (i_Prices___call__ : PySem.W.isFn K (.ref f_Prices___call__) = true)
    (l_Prices___call__ : K.lookup f_Prices___call__ = some ⟨oc_Prices___call__, od_Prices___call__, .func (PySem.W.fnOf "__call__" "Prices.__call__" (defArgs s_Prices___call__) (defBody s_Prices___call__) (defScope s_Prices___call__) .none kV_Prices___call__ dc_Prices___call__ pm_Prices___call__ an_Prices___call__ cd_Prices___call__ ct_Prices___call__), sl_Prices___call__⟩)
    (q_Prices___call__ : PySem.W.codeIn K cd_Prices___call__ "Prices.__call__" = true)
    (k_Prices___call__ : PySem.W.keepIn K (.ref f_Prices___call__) = true)
    (a_profit : PySem.W.nsIn K mainGlobals "profit" = some (some (.ref f_profit)))
    (l_profit : K.lookup f_profit = some ⟨oc_profit, od_profit, .func (PySem.W.fnOf "profit" "profit" (defArgs s_profit) (defBody s_profit) (defScope s_profit) .none kV_profit dc_profit pm_profit an_profit cd_profit ct_profit), sl_profit⟩)
    (q_profit : PySem.W.codeIn K cd_profit "profit" = true)
    (k_profit : PySem.W.keepIn K (.ref f_profit) = true)
    (a_round_profit : PySem.W.nsIn K mainGlobals "round_profit" = some (some (.ref f_round_profit)))
    (l_round_profit : K.lookup f_round_profit = some ⟨oc_round_profit, od_round_profit, .func (PySem.W.fnOf "round_profit" "round_profit" (defArgs s_round_profit) (defBody s_round_profit) (defScope s_round_profit) .none kV_round_profit dc_round_profit pm_round_profit an_round_profit cd_round_profit ct_round_profit), sl_round_profit⟩)
    (q_round_profit : PySem.W.codeIn K cd_round_profit "round_profit" = true)
    (k_round_profit : PySem.W.keepIn K (.ref f_round_profit) = true)
    (a_first_profit : PySem.W.nsIn K mainGlobals "first_profit" = some (some (.ref f_first_profit)))
    (l_first_profit : K.lookup f_first_profit = some ⟨oc_first_profit, od_first_profit, .func (PySem.W.fnOf "first_profit" "first_profit" (defArgs s_first_profit) (defBody s_first_profit) (defScope s_first_profit) .none kV_first_profit dc_first_profit pm_first_profit an_first_profit cd_first_profit ct_first_profit), sl_first_profit⟩)
    (q_first_profit : PySem.W.codeIn K cd_first_profit "first_profit" = true)
    (k_first_profit : PySem.W.keepIn K (.ref f_first_profit) = true)
    (a__law_start : PySem.W.nsIn K mainGlobals "_law_start" = some (some (.ref f__law_start)))
    (l__law_start : K.lookup f__law_start = some ⟨oc__law_start, od__law_start, .func (PySem.W.fnOf "_law_start" "_law_start" (defArgs s__law_start) (defBody s__law_start) (defScope s__law_start) .none kV__law_start dc__law_start pm__law_start an__law_start cd__law_start ct__law_start), sl__law_start⟩)
    (q__law_start : PySem.W.codeIn K cd__law_start "_law_start" = true)
    (k__law_start : PySem.W.keepIn K (.ref f__law_start) = true)
    (a__law_drawn : PySem.W.nsIn K mainGlobals "_law_drawn" = some (some (.ref f__law_drawn)))
    (l__law_drawn : K.lookup f__law_drawn = some ⟨oc__law_drawn, od__law_drawn, .func (PySem.W.fnOf "_law_drawn" "_law_drawn" (defArgs s__law_drawn) (defBody s__law_drawn) (defScope s__law_drawn) .none kV__law_drawn dc__law_drawn pm__law_drawn an__law_drawn cd__law_drawn ct__law_drawn), sl__law_drawn⟩)
    (q__law_drawn : PySem.W.codeIn K cd__law_drawn "_law_drawn" = true)
    (k__law_drawn : PySem.W.keepIn K (.ref f__law_drawn) = true)
    (a__law_same : PySem.W.nsIn K mainGlobals "_law_same" = some (some (.ref f__law_same)))
    (l__law_same : K.lookup f__law_same = some ⟨oc__law_same, od__law_same, .func (PySem.W.fnOf "_law_same" "_law_same" (defArgs s__law_same) (defBody s__law_same) (defScope s__law_same) .none kV__law_same dc__law_same pm__law_same an__law_same cd__law_same ct__law_same), sl__law_same⟩)
    (q__law_same : PySem.W.codeIn K cd__law_same "_law_same" = true)
    (k__law_same : PySem.W.keepIn K (.ref f__law_same) = true)
    (a__law_outcome : PySem.W.nsIn K mainGlobals "_law_outcome" = some (some (.ref f__law_outcome)))
    (l__law_outcome : K.lookup f__law_outcome = some ⟨oc__law_outcome, od__law_outcome, .func (PySem.W.fnOf "_law_outcome" "_law_outcome" (defArgs s__law_outcome) (defBody s__law_outcome) (defScope s__law_outcome) .none kV__law_outcome dc__law_outcome pm__law_outcome an__law_outcome cd__law_outcome ct__law_outcome), sl__law_outcome⟩)
    (q__law_outcome : PySem.W.codeIn K cd__law_outcome "_law_outcome" = true)
    (k__law_outcome : PySem.W.keepIn K (.ref f__law_outcome) = true)
    (a__law_amounts : PySem.W.nsIn K mainGlobals "_law_amounts" = some (some (.ref f__law_amounts)))
    (l__law_amounts : K.lookup f__law_amounts = some ⟨oc__law_amounts, od__law_amounts, .func (PySem.W.fnOf "_law_amounts" "_law_amounts" (defArgs s__law_amounts) (defBody s__law_amounts) (defScope s__law_amounts) .none kV__law_amounts dc__law_amounts pm__law_amounts an__law_amounts cd__law_amounts ct__law_amounts), sl__law_amounts⟩)
    (q__law_amounts : PySem.W.codeIn K cd__law_amounts "_law_amounts" = true)
    (k__law_amounts : PySem.W.keepIn K (.ref f__law_amounts) = true)
    (a__law_sold : PySem.W.nsIn K mainGlobals "_law_sold" = some (some (.ref f__law_sold)))
    (l__law_sold : K.lookup f__law_sold = some ⟨oc__law_sold, od__law_sold, .func (PySem.W.fnOf "_law_sold" "_law_sold" (defArgs s__law_sold) (defBody s__law_sold) (defScope s__law_sold) .none kV__law_sold dc__law_sold pm__law_sold an__law_sold cd__law_sold ct__law_sold), sl__law_sold⟩)
    (q__law_sold : PySem.W.codeIn K cd__law_sold "_law_sold" = true)
    (k__law_sold : PySem.W.keepIn K (.ref f__law_sold) = true)
    (a__law_closed : PySem.W.nsIn K mainGlobals "_law_closed" = some (some (.ref f__law_closed)))
    (l__law_closed : K.lookup f__law_closed = some ⟨oc__law_closed, od__law_closed, .func (PySem.W.fnOf "_law_closed" "_law_closed" (defArgs s__law_closed) (defBody s__law_closed) (defScope s__law_closed) .none kV__law_closed dc__law_closed pm__law_closed an__law_closed cd__law_closed ct__law_closed), sl__law_closed⟩)
    (q__law_closed : PySem.W.codeIn K cd__law_closed "_law_closed" = true)
    (k__law_closed : PySem.W.keepIn K (.ref f__law_closed) = true)
    (a_law : PySem.W.nsIn K mainGlobals "law" = some (some (.ref f_law)))
    (l_law : K.lookup f_law = some ⟨oc_law, od_law, .func (PySem.W.fnOf "law" "law" (defArgs s_law) (defBody s_law) (defScope s_law) .none kV_law dc_law pm_law an_law (.ref ka_law) ct_law), sl_law⟩)
    (q_law : PySem.W.codeIn K (.ref ka_law) "law" = true)
    (lc_law : K.lookup ka_law = some ⟨oe_law, oo_law, .fields vc_law, os_law⟩)
    (he_law : vc_law[11]? = some (.ref tb_law))
    (ch_law : PySem.W.codeHdIn K ka_law tb_law = true)
    (nt_law : K.lookup tb_law = none)
    (ht_law : h.get? tb_law = some { cls := .none, data := .fields #[] })
    (k_law : PySem.W.keepIn K (.ref f_law) = true)
    (fn_Prices : PySem.W.fnIn K f_Prices___call__ = true) :
    LamX.LawAtS l w K L2.CX0 11 63 "_law_script" mg fa h := by
  have e := hfa.symm.trans (PySem.W.mg_of X G a_law)
  cases e
  have F_count_keepable := fun_mk (st := s_count_keepable) l_count_keepable q_count_keepable k_count_keepable
  have B_count_keepable := F_count_keepable.binds (ps := p_count_keepable) fun _ _ _ _ _ _ us hl => match us, hl with | [_, _], _ => rfl
  have F_sum_repeated := fun_mk (st := s_sum_repeated) l_sum_repeated q_sum_repeated k_sum_repeated
  have B_sum_repeated := F_sum_repeated.binds (ps := p_sum_repeated) fun _ _ _ _ _ _ us hl => match us, hl with | [_, _], _ => rfl
  have F_Course___init__ := fun_mk (st := s_Course___init__) l_Course___init__ q_Course___init__ k_Course___init__
  have B_Course___init__ := F_Course___init__.binds (ps := p_Course___init__) fun _ _ _ _ _ _ us hl => match us, hl with | [_, _, _, _], _ => rfl
  have F_Course_stock_at := fun_mk (st := s_Course_stock_at) l_Course_stock_at q_Course_stock_at k_Course_stock_at
  have B_Course_stock_at := F_Course_stock_at.binds (ps := p_Course_stock_at) fun _ _ _ _ _ _ us hl => match us, hl with | [_, _], _ => rfl
  have F_Course_sales_before := fun_mk (st := s_Course_sales_before) l_Course_sales_before q_Course_sales_before k_Course_sales_before
  have B_Course_sales_before := F_Course_sales_before.binds (ps := p_Course_sales_before) fun _ _ _ _ _ _ us hl => match us, hl with | [_, _], _ => rfl
  have F_Course_find_settled := fun_mk (st := s_Course_find_settled) l_Course_find_settled q_Course_find_settled k_Course_find_settled
  have B_Course_find_settled := F_Course_find_settled.binds (ps := p_Course_find_settled) fun _ _ _ _ _ _ us hl => match us, hl with | [_], _ => rfl
  have F_Course_sum_settled_round := fun_mk (st := s_Course_sum_settled_round) l_Course_sum_settled_round q_Course_sum_settled_round k_Course_sum_settled_round
  have B_Course_sum_settled_round := F_Course_sum_settled_round.binds (ps := p_Course_sum_settled_round) fun _ _ _ _ _ _ us hl => match us, hl with | [_], _ => rfl
  have F_Course__play_round := fun_mk (st := s_Course__play_round) l_Course__play_round q_Course__play_round k_Course__play_round
  have B_Course__play_round := F_Course__play_round.binds (ps := p_Course__play_round) fun _ _ _ _ _ _ us hl => match us, hl with | [_, _], _ => rfl
  have F_Course__stocks_in := fun_mk (st := s_Course__stocks_in) l_Course__stocks_in q_Course__stocks_in k_Course__stocks_in
  have B_Course__stocks_in := F_Course__stocks_in.binds (ps := p_Course__stocks_in) fun _ _ _ _ _ _ us hl => match us, hl with | [_, _], _ => rfl
  have F_Course__misses_in := fun_mk (st := s_Course__misses_in) l_Course__misses_in q_Course__misses_in k_Course__misses_in
  have B_Course__misses_in := F_Course__misses_in.binds (ps := p_Course__misses_in) fun _ _ _ _ _ _ us hl => match us, hl with | [_, _], _ => rfl
  have F_Course__count_growing := fun_mk (st := s_Course__count_growing) l_Course__count_growing q_Course__count_growing k_Course__count_growing
  have B_Course__count_growing := F_Course__count_growing.binds (ps := p_Course__count_growing) fun _ _ _ _ _ _ us hl => match us, hl with | [_], _ => rfl
  have F_check_number := fun_mk (st := s_check_number) l_check_number q_check_number k_check_number
  have B_check_number := F_check_number.binds (ps := p_check_number) fun _ _ _ _ _ _ us hl => match us, hl with | [_, _, _], _ => rfl
  have F_check_amounts := fun_mk (st := s_check_amounts) l_check_amounts q_check_amounts k_check_amounts
  have B_check_amounts := F_check_amounts.binds (ps := p_check_amounts) fun _ _ _ _ _ _ us hl => match us, hl with | [_, _], _ => rfl
  have F_check_life := fun_mk (st := s_check_life) l_check_life q_check_life k_check_life
  have B_check_life := F_check_life.binds (ps := p_check_life) fun _ _ _ _ _ _ us hl => match us, hl with | [_], _ => rfl
  have F_check_bakery := fun_mk (st := s_check_bakery) l_check_bakery q_check_bakery k_check_bakery
  have B_check_bakery := F_check_bakery.binds (ps := p_check_bakery) fun _ _ _ _ _ _ us hl => match us, hl with | [_, _, _], _ => rfl
  have F_Bakery___init__ := fun_mk (st := s_Bakery___init__) l_Bakery___init__ q_Bakery___init__ k_Bakery___init__
  have B_Bakery___init__ := F_Bakery___init__.binds (ps := p_Bakery___init__) fun _ _ _ _ _ _ us hl => match us, hl with | [_, _, _, _], _ => rfl
  have F_Bakery_bakes := fun_mk (st := s_Bakery_bakes) l_Bakery_bakes q_Bakery_bakes k_Bakery_bakes
  have B_Bakery_bakes := F_Bakery_bakes.binds (ps := p_Bakery_bakes) fun _ _ _ _ _ _ us hl => match us, hl with | [_], _ => rfl
  have F_Bakery_settled_day := fun_mk (st := s_Bakery_settled_day) l_Bakery_settled_day q_Bakery_settled_day k_Bakery_settled_day
  have B_Bakery_settled_day := F_Bakery_settled_day.binds (ps := p_Bakery_settled_day) fun _ _ _ _ _ _ us hl => match us, hl with | [_], _ => rfl
  have F_Bakery_long_run := fun_mk (st := s_Bakery_long_run) l_Bakery_long_run q_Bakery_long_run k_Bakery_long_run
  have B_Bakery_long_run := F_Bakery_long_run.binds (ps := p_Bakery_long_run) fun _ _ _ _ _ _ us hl => match us, hl with | [_], _ => rfl
  have F_Bakery_totals := fun_mk (st := s_Bakery_totals) l_Bakery_totals q_Bakery_totals k_Bakery_totals
  have B_Bakery_totals := F_Bakery_totals.binds (ps := p_Bakery_totals) fun _ _ _ _ _ _ us hl => match us, hl with | [_, _], _ => rfl
  have F_check_price := fun_mk (st := s_check_price) l_check_price q_check_price k_check_price
  have B_check_price := F_check_price.binds (ps := p_check_price) fun _ _ _ _ _ _ us hl => match us, hl with | [_, _], _ => rfl
  have F_Prices___init__ := fun_mk (st := s_Prices___init__) l_Prices___init__ q_Prices___init__ k_Prices___init__
  have B_Prices___init__ := F_Prices___init__.binds (ps := p_Prices___init__) fun _ _ _ _ _ _ us hl => match us, hl with | [_, _, _, _], _ => rfl
  have F_Prices_cents := fun_mk (st := s_Prices_cents) l_Prices_cents q_Prices_cents k_Prices_cents
  have B_Prices_cents := F_Prices_cents.binds (ps := p_Prices_cents) fun _ _ _ _ _ _ us hl => match us, hl with | [_], _ => rfl
  have F_Prices___call__ := fun_mk (st := s_Prices___call__) l_Prices___call__ q_Prices___call__ k_Prices___call__
  have B_Prices___call__ := F_Prices___call__.binds (ps := p_Prices___call__) fun _ _ _ _ _ _ us hl => match us, hl with | [_, _, _, _], _ => rfl
  have F_profit := fun_mk (st := s_profit) l_profit q_profit k_profit
  have B_profit := F_profit.binds (ps := p_profit) fun _ _ _ _ _ _ us hl => match us, hl with | [_, _, _], _ => rfl
  have F_round_profit := fun_mk (st := s_round_profit) l_round_profit q_round_profit k_round_profit
  have B_round_profit := F_round_profit.binds (ps := p_round_profit) fun _ _ _ _ _ _ us hl => match us, hl with | [_, _], _ => rfl
  have F_first_profit := fun_mk (st := s_first_profit) l_first_profit q_first_profit k_first_profit
  have B_first_profit := F_first_profit.binds (ps := p_first_profit) fun _ _ _ _ _ _ us hl => match us, hl with | [_, _, _], _ => rfl
  have F__law_start := fun_mk (st := s__law_start) l__law_start q__law_start k__law_start
  have B__law_start := F__law_start.binds (ps := p__law_start) fun _ _ _ _ _ _ us hl => match us, hl with | [_], _ => rfl
  have F__law_drawn := fun_mk (st := s__law_drawn) l__law_drawn q__law_drawn k__law_drawn
  have B__law_drawn := F__law_drawn.binds (ps := p__law_drawn) fun _ _ _ _ _ _ us hl => match us, hl with | [_, _], _ => rfl
  have F__law_same := fun_mk (st := s__law_same) l__law_same q__law_same k__law_same
  have B__law_same := F__law_same.binds (ps := p__law_same) fun _ _ _ _ _ _ us hl => match us, hl with | [_, _], _ => rfl
  have F__law_outcome := fun_mk (st := s__law_outcome) l__law_outcome q__law_outcome k__law_outcome
  have B__law_outcome := F__law_outcome.binds (ps := p__law_outcome) fun _ _ _ _ _ _ us hl => match us, hl with | [_], _ => rfl
  have F__law_amounts := fun_mk (st := s__law_amounts) l__law_amounts q__law_amounts k__law_amounts
  have B__law_amounts := F__law_amounts.binds (ps := p__law_amounts) fun _ _ _ _ _ _ us hl => match us, hl with | [_, _, _], _ => rfl
  have F__law_sold := fun_mk (st := s__law_sold) l__law_sold q__law_sold k__law_sold
  have B__law_sold := F__law_sold.binds (ps := p__law_sold) fun _ _ _ _ _ _ us hl => match us, hl with | [_, _], _ => rfl
  have F__law_closed := fun_mk (st := s__law_closed) l__law_closed q__law_closed k__law_closed
  have B__law_closed := F__law_closed.binds (ps := p__law_closed) fun _ _ _ _ _ _ us hl => match us, hl with | [_, _], _ => rfl
  have F_law := fun_mk (st := s_law) l_law q_law k_law
  have B_law := F_law.binds (ps := p_law) fun _ _ _ _ _ _ us hl => match us, hl with | [_], _ => rfl
  have T : Txt K mg { c_Course := c_Course, mc_Course := .none, c_Prices := c_Prices, mc_Prices := .none, c_Bakery := c_Bakery, mc_Bakery := .type "type", t_MOST_LOAVES := t_MOST_LOAVES, t_LAST_DAY := t_LAST_DAY, t_MOST_CENTS := t_MOST_CENTS, t_MOST_PROFIT_DAYS := t_MOST_PROFIT_DAYS, t_MOST_GOAL := t_MOST_GOAL, c_LoafError := c_LoafError, c_InvalidNumber := c_InvalidNumber, P := l.prog, f_count_keepable := f_count_keepable, d_count_keepable := PySem.W.fnOf "count_keepable" "count_keepable" (defArgs s_count_keepable) (defBody s_count_keepable) (defScope s_count_keepable) .none kV_count_keepable dc_count_keepable pm_count_keepable an_count_keepable cd_count_keepable ct_count_keepable, f_sum_repeated := f_sum_repeated, d_sum_repeated := PySem.W.fnOf "sum_repeated" "sum_repeated" (defArgs s_sum_repeated) (defBody s_sum_repeated) (defScope s_sum_repeated) .none kV_sum_repeated dc_sum_repeated pm_sum_repeated an_sum_repeated cd_sum_repeated ct_sum_repeated, f_Course___init__ := f_Course___init__, d_Course___init__ := PySem.W.fnOf "__init__" "Course.__init__" (defArgs s_Course___init__) (defBody s_Course___init__) (defScope s_Course___init__) .none kV_Course___init__ dc_Course___init__ pm_Course___init__ an_Course___init__ cd_Course___init__ ct_Course___init__, f_Course_stock_at := f_Course_stock_at, d_Course_stock_at := PySem.W.fnOf "stock_at" "Course.stock_at" (defArgs s_Course_stock_at) (defBody s_Course_stock_at) (defScope s_Course_stock_at) .none kV_Course_stock_at dc_Course_stock_at pm_Course_stock_at an_Course_stock_at cd_Course_stock_at ct_Course_stock_at, f_Course_sales_before := f_Course_sales_before, d_Course_sales_before := PySem.W.fnOf "sales_before" "Course.sales_before" (defArgs s_Course_sales_before) (defBody s_Course_sales_before) (defScope s_Course_sales_before) .none kV_Course_sales_before dc_Course_sales_before pm_Course_sales_before an_Course_sales_before cd_Course_sales_before ct_Course_sales_before, f_Course_find_settled := f_Course_find_settled, d_Course_find_settled := PySem.W.fnOf "find_settled" "Course.find_settled" (defArgs s_Course_find_settled) (defBody s_Course_find_settled) (defScope s_Course_find_settled) .none kV_Course_find_settled dc_Course_find_settled pm_Course_find_settled an_Course_find_settled cd_Course_find_settled ct_Course_find_settled, f_Course_sum_settled_round := f_Course_sum_settled_round, d_Course_sum_settled_round := PySem.W.fnOf "sum_settled_round" "Course.sum_settled_round" (defArgs s_Course_sum_settled_round) (defBody s_Course_sum_settled_round) (defScope s_Course_sum_settled_round) .none kV_Course_sum_settled_round dc_Course_sum_settled_round pm_Course_sum_settled_round an_Course_sum_settled_round cd_Course_sum_settled_round ct_Course_sum_settled_round, f_Course__play_round := f_Course__play_round, d_Course__play_round := PySem.W.fnOf "_play_round" "Course._play_round" (defArgs s_Course__play_round) (defBody s_Course__play_round) (defScope s_Course__play_round) .none kV_Course__play_round dc_Course__play_round pm_Course__play_round an_Course__play_round cd_Course__play_round ct_Course__play_round, f_Course__stocks_in := f_Course__stocks_in, d_Course__stocks_in := PySem.W.fnOf "_stocks_in" "Course._stocks_in" (defArgs s_Course__stocks_in) (defBody s_Course__stocks_in) (defScope s_Course__stocks_in) .none kV_Course__stocks_in dc_Course__stocks_in pm_Course__stocks_in an_Course__stocks_in cd_Course__stocks_in ct_Course__stocks_in, f_Course__misses_in := f_Course__misses_in, d_Course__misses_in := PySem.W.fnOf "_misses_in" "Course._misses_in" (defArgs s_Course__misses_in) (defBody s_Course__misses_in) (defScope s_Course__misses_in) .none kV_Course__misses_in dc_Course__misses_in pm_Course__misses_in an_Course__misses_in cd_Course__misses_in ct_Course__misses_in, f_Course__count_growing := f_Course__count_growing, d_Course__count_growing := PySem.W.fnOf "_count_growing" "Course._count_growing" (defArgs s_Course__count_growing) (defBody s_Course__count_growing) (defScope s_Course__count_growing) .none kV_Course__count_growing dc_Course__count_growing pm_Course__count_growing an_Course__count_growing cd_Course__count_growing ct_Course__count_growing, f_check_number := f_check_number, d_check_number := PySem.W.fnOf "check_number" "check_number" (defArgs s_check_number) (defBody s_check_number) (defScope s_check_number) .none kV_check_number dc_check_number pm_check_number an_check_number cd_check_number ct_check_number, f_check_amounts := f_check_amounts, d_check_amounts := PySem.W.fnOf "check_amounts" "check_amounts" (defArgs s_check_amounts) (defBody s_check_amounts) (defScope s_check_amounts) .none kV_check_amounts dc_check_amounts pm_check_amounts an_check_amounts cd_check_amounts ct_check_amounts, f_check_life := f_check_life, d_check_life := PySem.W.fnOf "check_life" "check_life" (defArgs s_check_life) (defBody s_check_life) (defScope s_check_life) .none kV_check_life dc_check_life pm_check_life an_check_life cd_check_life ct_check_life, f_check_bakery := f_check_bakery, d_check_bakery := PySem.W.fnOf "check_bakery" "check_bakery" (defArgs s_check_bakery) (defBody s_check_bakery) (defScope s_check_bakery) .none kV_check_bakery dc_check_bakery pm_check_bakery an_check_bakery cd_check_bakery ct_check_bakery, f_Bakery___init__ := f_Bakery___init__, d_Bakery___init__ := PySem.W.fnOf "__init__" "Bakery.__init__" (defArgs s_Bakery___init__) (defBody s_Bakery___init__) (defScope s_Bakery___init__) .none kV_Bakery___init__ dc_Bakery___init__ pm_Bakery___init__ an_Bakery___init__ cd_Bakery___init__ ct_Bakery___init__, f_Bakery_bakes := f_Bakery_bakes, d_Bakery_bakes := PySem.W.fnOf "bakes" "Bakery.bakes" (defArgs s_Bakery_bakes) (defBody s_Bakery_bakes) (defScope s_Bakery_bakes) .none kV_Bakery_bakes dc_Bakery_bakes pm_Bakery_bakes an_Bakery_bakes cd_Bakery_bakes ct_Bakery_bakes, pr_Bakery_bakes := pr_Bakery_bakes, f_Bakery_settled_day := f_Bakery_settled_day, d_Bakery_settled_day := PySem.W.fnOf "settled_day" "Bakery.settled_day" (defArgs s_Bakery_settled_day) (defBody s_Bakery_settled_day) (defScope s_Bakery_settled_day) .none kV_Bakery_settled_day dc_Bakery_settled_day pm_Bakery_settled_day an_Bakery_settled_day cd_Bakery_settled_day ct_Bakery_settled_day, pr_Bakery_settled_day := pr_Bakery_settled_day, f_Bakery_long_run := f_Bakery_long_run, d_Bakery_long_run := PySem.W.fnOf "long_run" "Bakery.long_run" (defArgs s_Bakery_long_run) (defBody s_Bakery_long_run) (defScope s_Bakery_long_run) .none kV_Bakery_long_run dc_Bakery_long_run pm_Bakery_long_run an_Bakery_long_run cd_Bakery_long_run ct_Bakery_long_run, pr_Bakery_long_run := pr_Bakery_long_run, f_Bakery_totals := f_Bakery_totals, d_Bakery_totals := PySem.W.fnOf "totals" "Bakery.totals" (defArgs s_Bakery_totals) (defBody s_Bakery_totals) (defScope s_Bakery_totals) .none kV_Bakery_totals dc_Bakery_totals pm_Bakery_totals an_Bakery_totals cd_Bakery_totals ct_Bakery_totals, f_check_price := f_check_price, d_check_price := PySem.W.fnOf "check_price" "check_price" (defArgs s_check_price) (defBody s_check_price) (defScope s_check_price) .none kV_check_price dc_check_price pm_check_price an_check_price cd_check_price ct_check_price, f_Prices___init__ := f_Prices___init__, d_Prices___init__ := PySem.W.fnOf "__init__" "Prices.__init__" (defArgs s_Prices___init__) (defBody s_Prices___init__) (defScope s_Prices___init__) .none kV_Prices___init__ dc_Prices___init__ pm_Prices___init__ an_Prices___init__ cd_Prices___init__ ct_Prices___init__, f_Prices_cents := f_Prices_cents, d_Prices_cents := PySem.W.fnOf "cents" "Prices.cents" (defArgs s_Prices_cents) (defBody s_Prices_cents) (defScope s_Prices_cents) .none kV_Prices_cents dc_Prices_cents pm_Prices_cents an_Prices_cents cd_Prices_cents ct_Prices_cents, pr_Prices_cents := pr_Prices_cents, f_Prices___call__ := f_Prices___call__, d_Prices___call__ := PySem.W.fnOf "__call__" "Prices.__call__" (defArgs s_Prices___call__) (defBody s_Prices___call__) (defScope s_Prices___call__) .none kV_Prices___call__ dc_Prices___call__ pm_Prices___call__ an_Prices___call__ cd_Prices___call__ ct_Prices___call__, f_profit := f_profit, d_profit := PySem.W.fnOf "profit" "profit" (defArgs s_profit) (defBody s_profit) (defScope s_profit) .none kV_profit dc_profit pm_profit an_profit cd_profit ct_profit, f_round_profit := f_round_profit, d_round_profit := PySem.W.fnOf "round_profit" "round_profit" (defArgs s_round_profit) (defBody s_round_profit) (defScope s_round_profit) .none kV_round_profit dc_round_profit pm_round_profit an_round_profit cd_round_profit ct_round_profit, f_first_profit := f_first_profit, d_first_profit := PySem.W.fnOf "first_profit" "first_profit" (defArgs s_first_profit) (defBody s_first_profit) (defScope s_first_profit) .none kV_first_profit dc_first_profit pm_first_profit an_first_profit cd_first_profit ct_first_profit, f__law_start := f__law_start, d__law_start := PySem.W.fnOf "_law_start" "_law_start" (defArgs s__law_start) (defBody s__law_start) (defScope s__law_start) .none kV__law_start dc__law_start pm__law_start an__law_start cd__law_start ct__law_start, f__law_drawn := f__law_drawn, d__law_drawn := PySem.W.fnOf "_law_drawn" "_law_drawn" (defArgs s__law_drawn) (defBody s__law_drawn) (defScope s__law_drawn) .none kV__law_drawn dc__law_drawn pm__law_drawn an__law_drawn cd__law_drawn ct__law_drawn, f__law_same := f__law_same, d__law_same := PySem.W.fnOf "_law_same" "_law_same" (defArgs s__law_same) (defBody s__law_same) (defScope s__law_same) .none kV__law_same dc__law_same pm__law_same an__law_same cd__law_same ct__law_same, f__law_outcome := f__law_outcome, d__law_outcome := PySem.W.fnOf "_law_outcome" "_law_outcome" (defArgs s__law_outcome) (defBody s__law_outcome) (defScope s__law_outcome) .none kV__law_outcome dc__law_outcome pm__law_outcome an__law_outcome cd__law_outcome ct__law_outcome, f__law_amounts := f__law_amounts, d__law_amounts := PySem.W.fnOf "_law_amounts" "_law_amounts" (defArgs s__law_amounts) (defBody s__law_amounts) (defScope s__law_amounts) .none kV__law_amounts dc__law_amounts pm__law_amounts an__law_amounts cd__law_amounts ct__law_amounts, f__law_sold := f__law_sold, d__law_sold := PySem.W.fnOf "_law_sold" "_law_sold" (defArgs s__law_sold) (defBody s__law_sold) (defScope s__law_sold) .none kV__law_sold dc__law_sold pm__law_sold an__law_sold cd__law_sold ct__law_sold, f__law_closed := f__law_closed, d__law_closed := PySem.W.fnOf "_law_closed" "_law_closed" (defArgs s__law_closed) (defBody s__law_closed) (defScope s__law_closed) .none kV__law_closed dc__law_closed pm__law_closed an__law_closed cd__law_closed ct__law_closed, k_law := ka_law, tb_law := tb_law, f_law := fa, d_law := PySem.W.fnOf "law" "law" (defArgs s_law) (defBody s_law) (defScope s_law) .none kV_law dc_law pm_law an_law (.ref ka_law) ct_law } :=
    { g_Course := PySem.W.mg_of X G g_Course,
      cl_Course := ⟨pg_Course, hd_Course, po_Course, sa_Course⟩,
      g_Prices := PySem.W.mg_of X G g_Prices,
      cl_Prices := ⟨pg_Prices, hd_Prices, po_Prices, sa_Prices⟩,
      g_Bakery := PySem.W.mg_of X G g_Bakery,
      cl_Bakery := ⟨pg_Bakery, hd_Bakery, po_Bakery, sa_Bakery⟩,
      na_Course__bakes := na_Course__bakes,
      na_Course__demands := na_Course__demands,
      na_Course__keepable := na_Course__keepable,
      na_Course__gain := na_Course__gain,
      na_Course__first_end := na_Course__first_end,
      na_Course__full_end := na_Course__full_end,
      na_Course__first_misses := na_Course__first_misses,
      na_Course__later_misses := na_Course__later_misses,
      na_Prices__cents := na_Prices__cents,
      na_Bakery__bakes := na_Bakery__bakes,
      na_Bakery__demands := na_Bakery__demands,
      na_Bakery__life := na_Bakery__life,
      na_Bakery_course := na_Bakery_course,
      na_Bakery__settled_day := na_Bakery__settled_day,
      na_Bakery__long_run := na_Bakery__long_run,
      cv_Bakery_MAX_DAYS := ⟨⟨rd_Bakery, gt_Bakery⟩, _, ⟨cv_Bakery_MAX_DAYS, ⟨_, rfl⟩⟩⟩,
      cv_Bakery_MAX_LIFE := ⟨⟨rd_Bakery, gt_Bakery⟩, _, ⟨cv_Bakery_MAX_LIFE, ⟨_, rfl⟩⟩⟩,
      g_MOST_LOAVES := PySem.W.mg_of X G g_MOST_LOAVES,
      g_LAST_DAY := PySem.W.mg_of X G g_LAST_DAY,
      g_MOST_CENTS := PySem.W.mg_of X G g_MOST_CENTS,
      g_MOST_PROFIT_DAYS := PySem.W.mg_of X G g_MOST_PROFIT_DAYS,
      g_MOST_GOAL := PySem.W.mg_of X G g_MOST_GOAL,
      b_bool := PySem.W.mg_none_of X G b_bool,
      b_divmod := PySem.W.mg_none_of X G b_divmod,
      b_enumerate := PySem.W.mg_none_of X G b_enumerate,
      b_int := PySem.W.mg_none_of X G b_int,
      b_isinstance := PySem.W.mg_none_of X G b_isinstance,
      b_len := PySem.W.mg_none_of X G b_len,
      b_list := PySem.W.mg_none_of X G b_list,
      b_max := PySem.W.mg_none_of X G b_max,
      b_min := PySem.W.mg_none_of X G b_min,
      b_range := PySem.W.mg_none_of X G b_range,
      b_sum := PySem.W.mg_none_of X G b_sum,
      b_super := PySem.W.mg_none_of X G b_super,
      b_tuple := PySem.W.mg_none_of X G b_tuple,
      b_zip := PySem.W.mg_none_of X G b_zip,
      g_LoafError := PySem.W.mg_of X G g_LoafError,
      g_InvalidNumber := PySem.W.mg_of X G g_InvalidNumber,
      xp_InvalidNumber := xp_InvalidNumber,
      xq_InvalidNumber := xq_InvalidNumber,
      xb_InvalidNumber := xb_InvalidNumber,
      xy_InvalidNumber := xy_InvalidNumber,
      xv_InvalidNumber := xv_InvalidNumber,
      xk_InvalidNumber_InvalidNumber := xk_InvalidNumber_InvalidNumber,
      xI_InvalidNumber := ⟨xic_InvalidNumber, xga_InvalidNumber, xgg_InvalidNumber, xb_InvalidNumber, xhd_InvalidNumber, xca_InvalidNumber, xe_cg, xe_ct, xmo_InvalidNumber⟩,
      xm_InvalidNumber := PySem.W.exm_ref xe_base xe_dict xe_type sL_InvalidNumber,
      xn_InvalidNumber_InvalidNumber := PySem.W.exm_ref eb_InvalidNumber ed_InvalidNumber et_InvalidNumber es_InvalidNumber_InvalidNumber,
      co_Prices := ⟨a_Prices___call__, i_Prices___call__, fn_Prices⟩,
      g_count_keepable := PySem.W.mg_of X G a_count_keepable,
      F_count_keepable := F_count_keepable,
      b_count_keepable := B_count_keepable,
      g_sum_repeated := PySem.W.mg_of X G a_sum_repeated,
      F_sum_repeated := F_sum_repeated,
      b_sum_repeated := B_sum_repeated,
      mk_Course := ⟨mk_Course, a_Course___init__, i_Course___init__, kc_Course⟩,
      F_Course___init__ := F_Course___init__,
      b_Course___init__ := B_Course___init__,
      m_Course_stock_at := ⟨a_Course_stock_at, i_Course_stock_at, k_Course_stock_at⟩,
      F_Course_stock_at := F_Course_stock_at,
      b_Course_stock_at := B_Course_stock_at,
      m_Course_sales_before := ⟨a_Course_sales_before, i_Course_sales_before, k_Course_sales_before⟩,
      F_Course_sales_before := F_Course_sales_before,
      b_Course_sales_before := B_Course_sales_before,
      m_Course_find_settled := ⟨a_Course_find_settled, i_Course_find_settled, k_Course_find_settled⟩,
      F_Course_find_settled := F_Course_find_settled,
      b_Course_find_settled := B_Course_find_settled,
      m_Course_sum_settled_round := ⟨a_Course_sum_settled_round, i_Course_sum_settled_round, k_Course_sum_settled_round⟩,
      F_Course_sum_settled_round := F_Course_sum_settled_round,
      b_Course_sum_settled_round := B_Course_sum_settled_round,
      m_Course__play_round := ⟨a_Course__play_round, i_Course__play_round, k_Course__play_round⟩,
      F_Course__play_round := F_Course__play_round,
      b_Course__play_round := B_Course__play_round,
      m_Course__stocks_in := ⟨a_Course__stocks_in, i_Course__stocks_in, k_Course__stocks_in⟩,
      F_Course__stocks_in := F_Course__stocks_in,
      b_Course__stocks_in := B_Course__stocks_in,
      m_Course__misses_in := ⟨a_Course__misses_in, i_Course__misses_in, k_Course__misses_in⟩,
      F_Course__misses_in := F_Course__misses_in,
      b_Course__misses_in := B_Course__misses_in,
      m_Course__count_growing := ⟨a_Course__count_growing, i_Course__count_growing, k_Course__count_growing⟩,
      F_Course__count_growing := F_Course__count_growing,
      b_Course__count_growing := B_Course__count_growing,
      g_check_number := PySem.W.mg_of X G a_check_number,
      F_check_number := F_check_number,
      b_check_number := B_check_number,
      g_check_amounts := PySem.W.mg_of X G a_check_amounts,
      F_check_amounts := F_check_amounts,
      b_check_amounts := B_check_amounts,
      g_check_life := PySem.W.mg_of X G a_check_life,
      F_check_life := F_check_life,
      b_check_life := B_check_life,
      g_check_bakery := PySem.W.mg_of X G a_check_bakery,
      F_check_bakery := F_check_bakery,
      b_check_bakery := B_check_bakery,
      mk_Bakery := ⟨mk_Bakery, a_Bakery___init__, i_Bakery___init__, kc_Bakery⟩,
      F_Bakery___init__ := F_Bakery___init__,
      b_Bakery___init__ := B_Bakery___init__,
      pp_Bakery_bakes := ⟨a_Bakery_bakes, pg_Bakery_bakes, pt_Bakery_bakes, ⟨_, pr1_Bakery_bakes⟩⟩,
      F_Bakery_bakes := F_Bakery_bakes,
      b_Bakery_bakes := B_Bakery_bakes,
      pp_Bakery_settled_day := ⟨a_Bakery_settled_day, pg_Bakery_settled_day, pt_Bakery_settled_day, ⟨_, pr1_Bakery_settled_day⟩⟩,
      F_Bakery_settled_day := F_Bakery_settled_day,
      b_Bakery_settled_day := B_Bakery_settled_day,
      pp_Bakery_long_run := ⟨a_Bakery_long_run, pg_Bakery_long_run, pt_Bakery_long_run, ⟨_, pr1_Bakery_long_run⟩⟩,
      F_Bakery_long_run := F_Bakery_long_run,
      b_Bakery_long_run := B_Bakery_long_run,
      m_Bakery_totals := ⟨a_Bakery_totals, i_Bakery_totals, k_Bakery_totals⟩,
      F_Bakery_totals := F_Bakery_totals,
      b_Bakery_totals := B_Bakery_totals,
      g_check_price := PySem.W.mg_of X G a_check_price,
      F_check_price := F_check_price,
      b_check_price := B_check_price,
      mk_Prices := ⟨mk_Prices, a_Prices___init__, i_Prices___init__, kc_Prices⟩,
      F_Prices___init__ := F_Prices___init__,
      b_Prices___init__ := B_Prices___init__,
      pp_Prices_cents := ⟨a_Prices_cents, pg_Prices_cents, pt_Prices_cents, ⟨_, pr1_Prices_cents⟩⟩,
      F_Prices_cents := F_Prices_cents,
      b_Prices_cents := B_Prices_cents,
      m_Prices___call__ := ⟨a_Prices___call__, i_Prices___call__, k_Prices___call__⟩,
      F_Prices___call__ := F_Prices___call__,
      b_Prices___call__ := B_Prices___call__,
      g_profit := PySem.W.mg_of X G a_profit,
      F_profit := F_profit,
      b_profit := B_profit,
      g_round_profit := PySem.W.mg_of X G a_round_profit,
      F_round_profit := F_round_profit,
      b_round_profit := B_round_profit,
      g_first_profit := PySem.W.mg_of X G a_first_profit,
      F_first_profit := F_first_profit,
      b_first_profit := B_first_profit,
      g__law_start := PySem.W.mg_of X G a__law_start,
      F__law_start := F__law_start,
      b__law_start := B__law_start,
      g__law_drawn := PySem.W.mg_of X G a__law_drawn,
      F__law_drawn := F__law_drawn,
      b__law_drawn := B__law_drawn,
      g__law_same := PySem.W.mg_of X G a__law_same,
      F__law_same := F__law_same,
      b__law_same := B__law_same,
      g__law_outcome := PySem.W.mg_of X G a__law_outcome,
      F__law_outcome := F__law_outcome,
      b__law_outcome := B__law_outcome,
      g__law_amounts := PySem.W.mg_of X G a__law_amounts,
      F__law_amounts := F__law_amounts,
      b__law_amounts := B__law_amounts,
      g__law_sold := PySem.W.mg_of X G a__law_sold,
      F__law_sold := F__law_sold,
      b__law_sold := B__law_sold,
      g__law_closed := PySem.W.mg_of X G a__law_closed,
      F__law_closed := F__law_closed,
      b__law_closed := B__law_closed,
      g_law := PySem.W.mg_of X G a_law,
      FC_law := funC_mk (st := s_law) l_law q_law,
      F_law := F_law,
      b_law := B_law }
  have all : ∀ (Pr : Addr × Addr → Prop), Pr (ka_law, tb_law) → ∀ p ∈ [(ka_law, tb_law)], Pr p := fun Pr hp p hm => by
    rw [List.mem_singleton.mp hm]; exact hp
  exact ⟨PySem.W.fnOf "law" "law" (defArgs s_law) (defBody s_law) (defScope s_law) .none kV_law dc_law pm_law an_law (.ref ka_law) ct_law, [(ka_law, tb_law)], sp_lawT K tb_law, all _ ht_law, all _ nt_law, all _ (PySem.W.codeHd_of_K X ch_law), fun s v => .of_eq rfl, fun H a ns hl _ hT hS => ⟨a, ns, rfl, hS, hl, hT (ka_law, tb_law) (by simp), fun _ => rfl⟩, fun base _ _ TB => ok_law T rfl (TB (ka_law, tb_law) (by simp))⟩
end Sw

open PySem PySem.W PyProof.Rows
set_option maxRecDepth 100000 in
set_option maxHeartbeats 0 in
theorem PySem.Challenge.cw_staleloaves_k44_whole_profits_holds : PySem.Challenge.rw_staleloaves_k44_whole_profits.Holds := by
  w_on; o_law; k_head; (case hw => w_witness2)
  k_fill
  refine LamX.walk_ofTs (l := PySem.Challenge.rw_staleloaves_k44_whole_profits) (n := 63) (k := 11) (x := "_law_script") (CX := fun _ => L2.CX0) rfl (by decide) rfl ⟨rfl, by decide, by decide⟩ (fun w h Y => PySem.W.km_in_of Y) ?F (fun _ _ _ _ _ z => z)
  case F =>
    intro w mg fa h Y KX G hmg
    refine' Sw.all_mk KX G hmg ?g_Course ?pg_Course ?hd_Course ?po_Course ?sa_Course ?mk_Course ?kc_Course ?g_Prices ?pg_Prices ?hd_Prices ?po_Prices ?sa_Prices ?mk_Prices ?kc_Prices ?g_Bakery ?pg_Bakery ?hd_Bakery ?po_Bakery ?sa_Bakery ?mk_Bakery ?kc_Bakery ?na_Course__bakes ?na_Course__demands ?na_Course__keepable ?na_Course__gain ?na_Course__first_end ?na_Course__full_end ?na_Course__first_misses ?na_Course__later_misses ?na_Prices__cents ?na_Bakery__bakes ?na_Bakery__demands ?na_Bakery__life ?na_Bakery_course ?na_Bakery__settled_day ?na_Bakery__long_run ?rd_Bakery ?gt_Bakery ?cv_Bakery_MAX_DAYS ?cv_Bakery_MAX_LIFE ?g_MOST_LOAVES ?g_LAST_DAY ?g_MOST_CENTS ?g_MOST_PROFIT_DAYS ?g_MOST_GOAL ?b_bool ?b_divmod ?b_enumerate ?b_int ?b_isinstance ?b_len ?b_list ?b_max ?b_min ?b_range ?b_sum ?b_super ?b_tuple ?b_zip ?g_LoafError ?g_InvalidNumber ?xe_base ?xe_dict ?xe_type ?xe_any ?xe_top ?xe_cg ?xe_ct ?xp_InvalidNumber ?xq_InvalidNumber ?xb_InvalidNumber ?xy_InvalidNumber ?xv_InvalidNumber ?xk_InvalidNumber_InvalidNumber ?xhd_InvalidNumber ?xic_InvalidNumber ?xga_InvalidNumber ?xgg_InvalidNumber ?xca_InvalidNumber ?xmo_InvalidNumber ?sL_InvalidNumber ?eb_InvalidNumber ?ed_InvalidNumber ?et_InvalidNumber ?es_InvalidNumber_InvalidNumber ?a_count_keepable ?l_count_keepable ?q_count_keepable ?k_count_keepable ?a_sum_repeated ?l_sum_repeated ?q_sum_repeated ?k_sum_repeated ?a_Course___init__ ?i_Course___init__ ?l_Course___init__ ?q_Course___init__ ?k_Course___init__ ?a_Course_stock_at ?i_Course_stock_at ?l_Course_stock_at ?q_Course_stock_at ?k_Course_stock_at ?a_Course_sales_before ?i_Course_sales_before ?l_Course_sales_before ?q_Course_sales_before ?k_Course_sales_before ?a_Course_find_settled ?i_Course_find_settled ?l_Course_find_settled ?q_Course_find_settled ?k_Course_find_settled ?a_Course_sum_settled_round ?i_Course_sum_settled_round ?l_Course_sum_settled_round ?q_Course_sum_settled_round ?k_Course_sum_settled_round ?a_Course__play_round ?i_Course__play_round ?l_Course__play_round ?q_Course__play_round ?k_Course__play_round ?a_Course__stocks_in ?i_Course__stocks_in ?l_Course__stocks_in ?q_Course__stocks_in ?k_Course__stocks_in ?a_Course__misses_in ?i_Course__misses_in ?l_Course__misses_in ?q_Course__misses_in ?k_Course__misses_in ?a_Course__count_growing ?i_Course__count_growing ?l_Course__count_growing ?q_Course__count_growing ?k_Course__count_growing ?a_check_number ?l_check_number ?q_check_number ?k_check_number ?a_check_amounts ?l_check_amounts ?q_check_amounts ?k_check_amounts ?a_check_life ?l_check_life ?q_check_life ?k_check_life ?a_check_bakery ?l_check_bakery ?q_check_bakery ?k_check_bakery ?a_Bakery___init__ ?i_Bakery___init__ ?l_Bakery___init__ ?q_Bakery___init__ ?k_Bakery___init__ ?a_Bakery_bakes ?pg_Bakery_bakes ?pt_Bakery_bakes ?pr1_Bakery_bakes ?l_Bakery_bakes ?q_Bakery_bakes ?k_Bakery_bakes ?a_Bakery_settled_day ?pg_Bakery_settled_day ?pt_Bakery_settled_day ?pr1_Bakery_settled_day ?l_Bakery_settled_day ?q_Bakery_settled_day ?k_Bakery_settled_day ?a_Bakery_long_run ?pg_Bakery_long_run ?pt_Bakery_long_run ?pr1_Bakery_long_run ?l_Bakery_long_run ?q_Bakery_long_run ?k_Bakery_long_run ?a_Bakery_totals ?i_Bakery_totals ?l_Bakery_totals ?q_Bakery_totals ?k_Bakery_totals ?a_check_price ?l_check_price ?q_check_price ?k_check_price ?a_Prices___init__ ?i_Prices___init__ ?l_Prices___init__ ?q_Prices___init__ ?k_Prices___init__ ?a_Prices_cents ?pg_Prices_cents ?pt_Prices_cents ?pr1_Prices_cents ?l_Prices_cents ?q_Prices_cents ?k_Prices_cents ?a_Prices___call__ ?i_Prices___call__ ?l_Prices___call__ ?q_Prices___call__ ?k_Prices___call__ ?a_profit ?l_profit ?q_profit ?k_profit ?a_round_profit ?l_round_profit ?q_round_profit ?k_round_profit ?a_first_profit ?l_first_profit ?q_first_profit ?k_first_profit ?a__law_start ?l__law_start ?q__law_start ?k__law_start ?a__law_drawn ?l__law_drawn ?q__law_drawn ?k__law_drawn ?a__law_same ?l__law_same ?q__law_same ?k__law_same ?a__law_outcome ?l__law_outcome ?q__law_outcome ?k__law_outcome ?a__law_amounts ?l__law_amounts ?q__law_amounts ?k__law_amounts ?a__law_sold ?l__law_sold ?q__law_sold ?k__law_sold ?a__law_closed ?l__law_closed ?q__law_closed ?k__law_closed ?a_law ?l_law ?q_law ?lc_law ?he_law ?ch_law ?nt_law ?ht_law ?k_law ?fn_Prices
    (case g_Course => k_is)
    (case pg_Course => k_is)
    (case hd_Course => k_is)
    (case po_Course => k_is)
    (case sa_Course => k_is)
    (case mk_Course => k_is)
    (case kc_Course => k_is)
    (case g_Prices => k_is)
    (case pg_Prices => k_is)
    (case hd_Prices => k_is)
    (case po_Prices => k_is)
    (case sa_Prices => k_is)
    (case mk_Prices => k_is)
    (case kc_Prices => k_is)
    (case g_Bakery => k_is)
    (case pg_Bakery => k_is)
    (case hd_Bakery => k_is)
    (case po_Bakery => k_is)
    (case sa_Bakery => k_is)
    (case mk_Bakery => k_is)
    (case kc_Bakery => k_is)
    (case na_Course__bakes => k_is)
    (case na_Course__demands => k_is)
    (case na_Course__keepable => k_is)
    (case na_Course__gain => k_is)
    (case na_Course__first_end => k_is)
    (case na_Course__full_end => k_is)
    (case na_Course__first_misses => k_is)
    (case na_Course__later_misses => k_is)
    (case na_Prices__cents => k_is)
    (case na_Bakery__bakes => k_is)
    (case na_Bakery__demands => k_is)
    (case na_Bakery__life => k_is)
    (case na_Bakery_course => k_is)
    (case na_Bakery__settled_day => k_is)
    (case na_Bakery__long_run => k_is)
    (case rd_Bakery => k_is)
    (case gt_Bakery => k_is)
    (case cv_Bakery_MAX_DAYS => k_is)
    (case cv_Bakery_MAX_LIFE => k_is)
    (case g_MOST_LOAVES => k_is)
    (case g_LAST_DAY => k_is)
    (case g_MOST_CENTS => k_is)
    (case g_MOST_PROFIT_DAYS => k_is)
    (case g_MOST_GOAL => k_is)
    (case b_bool => k_is)
    (case b_divmod => k_is)
    (case b_enumerate => k_is)
    (case b_int => k_is)
    (case b_isinstance => k_is)
    (case b_len => k_is)
    (case b_list => k_is)
    (case b_max => k_is)
    (case b_min => k_is)
    (case b_range => k_is)
    (case b_sum => k_is)
    (case b_super => k_is)
    (case b_tuple => k_is)
    (case b_zip => k_is)
    (case g_LoafError => k_is)
    (case g_InvalidNumber => k_is)
    (case xe_base => k_is)
    (case xe_dict => k_is)
    (case xe_type => k_is)
    (case xe_any => k_is)
    (case xe_top => kernel_rfl)
    (case xe_cg => k_is)
    (case xe_ct => k_is)
    (case xp_InvalidNumber => first | k_exc | kernel_rfl)
    (case xq_InvalidNumber => k_is)
    (case xb_InvalidNumber => k_is)
    (case xy_InvalidNumber => k_is)
    (case xv_InvalidNumber => first | kit_is | kernel_rfl)
    (case xk_InvalidNumber_InvalidNumber => first | kit_is | kernel_rfl)
    (case xhd_InvalidNumber => k_is)
    (case xic_InvalidNumber => k_is)
    (case xga_InvalidNumber => k_is)
    (case xgg_InvalidNumber => k_is)
    (case xca_InvalidNumber => k_is)
    (case xmo_InvalidNumber => k_is)
    (case sL_InvalidNumber => k_is)
    (case eb_InvalidNumber => k_is)
    (case ed_InvalidNumber => k_is)
    (case et_InvalidNumber => k_is)
    (case es_InvalidNumber_InvalidNumber => k_is)
    (case a_count_keepable => k_is)
    (case l_count_keepable => k_is)
    (case q_count_keepable => k_is)
    (case k_count_keepable => k_is)
    (case a_sum_repeated => k_is)
    (case l_sum_repeated => k_is)
    (case q_sum_repeated => k_is)
    (case k_sum_repeated => k_is)
    (case a_Course___init__ => k_is)
    (case i_Course___init__ => k_is)
    (case l_Course___init__ => k_is)
    (case q_Course___init__ => k_is)
    (case k_Course___init__ => k_is)
    (case a_Course_stock_at => k_is)
    (case i_Course_stock_at => k_is)
    (case l_Course_stock_at => k_is)
    (case q_Course_stock_at => k_is)
    (case k_Course_stock_at => k_is)
    (case a_Course_sales_before => k_is)
    (case i_Course_sales_before => k_is)
    (case l_Course_sales_before => k_is)
    (case q_Course_sales_before => k_is)
    (case k_Course_sales_before => k_is)
    (case a_Course_find_settled => k_is)
    (case i_Course_find_settled => k_is)
    (case l_Course_find_settled => k_is)
    (case q_Course_find_settled => k_is)
    (case k_Course_find_settled => k_is)
    (case a_Course_sum_settled_round => k_is)
    (case i_Course_sum_settled_round => k_is)
    (case l_Course_sum_settled_round => k_is)
    (case q_Course_sum_settled_round => k_is)
    (case k_Course_sum_settled_round => k_is)
    (case a_Course__play_round => k_is)
    (case i_Course__play_round => k_is)
    (case l_Course__play_round => k_is)
    (case q_Course__play_round => k_is)
    (case k_Course__play_round => k_is)
    (case a_Course__stocks_in => k_is)
    (case i_Course__stocks_in => k_is)
    (case l_Course__stocks_in => k_is)
    (case q_Course__stocks_in => k_is)
    (case k_Course__stocks_in => k_is)
    (case a_Course__misses_in => k_is)
    (case i_Course__misses_in => k_is)
    (case l_Course__misses_in => k_is)
    (case q_Course__misses_in => k_is)
    (case k_Course__misses_in => k_is)
    (case a_Course__count_growing => k_is)
    (case i_Course__count_growing => k_is)
    (case l_Course__count_growing => k_is)
    (case q_Course__count_growing => k_is)
    (case k_Course__count_growing => k_is)
    (case a_check_number => k_is)
    (case l_check_number => k_is)
    (case q_check_number => k_is)
    (case k_check_number => k_is)
    (case a_check_amounts => k_is)
    (case l_check_amounts => k_is)
    (case q_check_amounts => k_is)
    (case k_check_amounts => k_is)
    (case a_check_life => k_is)
    (case l_check_life => k_is)
    (case q_check_life => k_is)
    (case k_check_life => k_is)
    (case a_check_bakery => k_is)
    (case l_check_bakery => k_is)
    (case q_check_bakery => k_is)
    (case k_check_bakery => k_is)
    (case a_Bakery___init__ => k_is)
    (case i_Bakery___init__ => k_is)
    (case l_Bakery___init__ => k_is)
    (case q_Bakery___init__ => k_is)
    (case k_Bakery___init__ => k_is)
    (case a_Bakery_bakes => k_is)
    (case pg_Bakery_bakes => k_is)
    (case pt_Bakery_bakes => k_is)
    (case pr1_Bakery_bakes => k_is)
    (case l_Bakery_bakes => k_is)
    (case q_Bakery_bakes => k_is)
    (case k_Bakery_bakes => k_is)
    (case a_Bakery_settled_day => k_is)
    (case pg_Bakery_settled_day => k_is)
    (case pt_Bakery_settled_day => k_is)
    (case pr1_Bakery_settled_day => k_is)
    (case l_Bakery_settled_day => k_is)
    (case q_Bakery_settled_day => k_is)
    (case k_Bakery_settled_day => k_is)
    (case a_Bakery_long_run => k_is)
    (case pg_Bakery_long_run => k_is)
    (case pt_Bakery_long_run => k_is)
    (case pr1_Bakery_long_run => k_is)
    (case l_Bakery_long_run => k_is)
    (case q_Bakery_long_run => k_is)
    (case k_Bakery_long_run => k_is)
    (case a_Bakery_totals => k_is)
    (case i_Bakery_totals => k_is)
    (case l_Bakery_totals => k_is)
    (case q_Bakery_totals => k_is)
    (case k_Bakery_totals => k_is)
    (case a_check_price => k_is)
    (case l_check_price => k_is)
    (case q_check_price => k_is)
    (case k_check_price => k_is)
    (case a_Prices___init__ => k_is)
    (case i_Prices___init__ => k_is)
    (case l_Prices___init__ => k_is)
    (case q_Prices___init__ => k_is)
    (case k_Prices___init__ => k_is)
    (case a_Prices_cents => k_is)
    (case pg_Prices_cents => k_is)
    (case pt_Prices_cents => k_is)
    (case pr1_Prices_cents => k_is)
    (case l_Prices_cents => k_is)
    (case q_Prices_cents => k_is)
    (case k_Prices_cents => k_is)
    (case a_Prices___call__ => k_is)
    (case i_Prices___call__ => k_is)
    (case l_Prices___call__ => k_is)
    (case q_Prices___call__ => k_is)
    (case k_Prices___call__ => k_is)
    (case a_profit => k_is)
    (case l_profit => k_is)
    (case q_profit => k_is)
    (case k_profit => k_is)
    (case a_round_profit => k_is)
    (case l_round_profit => k_is)
    (case q_round_profit => k_is)
    (case k_round_profit => k_is)
    (case a_first_profit => k_is)
    (case l_first_profit => k_is)
    (case q_first_profit => k_is)
    (case k_first_profit => k_is)
    (case a__law_start => k_is)
    (case l__law_start => k_is)
    (case q__law_start => k_is)
    (case k__law_start => k_is)
    (case a__law_drawn => k_is)
    (case l__law_drawn => k_is)
    (case q__law_drawn => k_is)
    (case k__law_drawn => k_is)
    (case a__law_same => k_is)
    (case l__law_same => k_is)
    (case q__law_same => k_is)
    (case k__law_same => k_is)
    (case a__law_outcome => k_is)
    (case l__law_outcome => k_is)
    (case q__law_outcome => k_is)
    (case k__law_outcome => k_is)
    (case a__law_amounts => k_is)
    (case l__law_amounts => k_is)
    (case q__law_amounts => k_is)
    (case k__law_amounts => k_is)
    (case a__law_sold => k_is)
    (case l__law_sold => k_is)
    (case q__law_sold => k_is)
    (case k__law_sold => k_is)
    (case a__law_closed => k_is)
    (case l__law_closed => k_is)
    (case q__law_closed => k_is)
    (case k__law_closed => k_is)
    (case a_law => k_is)
    (case l_law => k_is)
    (case q_law => k_is)
    (case lc_law => k_is)
    (case he_law => rfl)
    (case ch_law => kernel_rfl)
    (case nt_law => kernel_rfl)
    (case ht_law => exact PySem.W.km_tabs_of Y _ (by decide))
    (case k_law => k_is)
    (case fn_Prices => k_is)
