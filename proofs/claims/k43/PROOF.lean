import PyProof.Rows.All
import Wide.All
import OpenK.AllK
import Wide.FinOn
import HandS.ForMost
import KE.GoesMore
import KE.GoesEnum
import KE.KTupSum
import HandS.Evl
import HandS.TupAny
import HandS.Wide
import HandS.Style
import HandS.Property
import HandS.ClsMeth
import HandS.WideBits
import HandS.Steps
import HandS.Walk
import HandS.Strs
import HandS.SetFor
import HandS.IsInst
import KE.KLam
import HandS.Codes
import HandS.TryOnly
import HandS.Lambda
import HandS.Nested
import HandS.EndTab
import HandS.EndOwn
import HandS.ExcInit
import HandS.ExcOwn
import HandS.ExcField
import HandS.ExcIs
import HandS.WordsExc
import HandS.FStr
import KE.KSuper
import KE.KExcSuper
import KE.KExcIs
import HandS.TupMul
import HandS.Small
import HandS.Star
import KE.KOpsOwn
import PySem.Challenge.RW_staleloaves_k43_signs_of_prices
set_option Elab.async false
set_option linter.all false
set_option maxRecDepth 100000
set_option maxHeartbeats 4000000
namespace Sw
open PySem PySem.Spec PyProof.Rows L2
/-! ### zip of a tuple, a tuple and a list; enumerate of a tuple -/
def Itz3 (K : PySem.W.Frag) (a b c : Addr) : It :=
  ⟨fun i H => ∃ (xs ys zs : List V) (x y z : V), SqT K H a xs ∧ SqT K H b ys ∧ SqL K H c zs ∧ xs[i]? = some x ∧ ys[i]? = some y ∧ zs[i]? = some z,
    fun i H v H' => ∃ T x y z, v = .ref T ∧ H T = none ∧ H' = upd H T (.tup [x, y, z]) ∧ (∀ xs, SqT K H a xs → xs[i]? = some x) ∧ (∀ ys, SqT K H b ys → ys[i]? = some y) ∧ ∀ zs, SqL K H c zs → zs[i]? = some z,
    fun i H => ∃ xs ys zs : List V, SqT K H a xs ∧ SqT K H b ys ∧ SqL K H c zs ∧ xs.length = i ∧ ys.length = i ∧ zs.length = i⟩
theorem turn_zip3 {P : Program} {w : World} {K : PySem.W.Frag} {elts : List Expr} {kk : Nat} {tpos : Pos} {a b c z TI TO i1 i2 i3 : Addr}
    (D : ZipSep3 z TI TO i1 i2 i3 [i1, a] [i2, b] [i3, c]) (h1a : a ≠ i1) (h2b : b ≠ i2) (h3c : c ≠ i3) :
    Turn P w K (.Tuple elts kk tpos) (Itz3 K a b c) [z, TI, TO, i1, i2, i3] z (fun i h => IsZip h z TI TO .none ∧ IsTupOf3 h TI (.ref i1) (.ref i2) (.ref i3) ∧ (∃ x y u, IsTupOf3 h TO x y u) ∧ h.IsTupleIter i1 a i ∧ h.IsTupleIter i2 b i ∧ h.IsListIter i3 c i) where
  mem := by simp
  obj := fun i h st d hd => by
    obtain ⟨hz, hTI, ⟨x, y, u, hTO⟩, ⟨o1, e1, _, d1⟩, ⟨o2, e2, _, d2⟩, ⟨o3, e3, _, d3⟩⟩ := st
    have e' : d = z ∨ d = TI ∨ d = TO ∨ d = i1 ∨ d = i2 ∨ d = i3 := by simpa using hd
    rcases e' with q | q | q | q | q | q
    · rw [q]; exact ⟨_, hz, fun v q => nomatch q⟩
    · rw [q]; exact ⟨_, hTI, fun v q => nomatch q⟩
    · rw [q]; exact ⟨_, hTO, fun v q => nomatch q⟩
    · rw [q]; exact ⟨o1, e1, fun v q => by rw [d1] at q; cases q⟩
    · rw [q]; exact ⟨o2, e2, fun v q => by rw [d2] at q; cases q⟩
    · rw [q]; exact ⟨o3, e3, fun v q => by rw [d3] at q; cases q⟩
  keep := fun i h h' st k => by
    obtain ⟨hz, hTI, ⟨x, y, u, hTO⟩, h1, h2, h3⟩ := st
    exact ⟨k z (by simp) _ hz, k TI (by simp) _ hTI, ⟨x, y, u, k TO (by simp) _ hTO⟩, h1.at fun o q => k i1 (by simp) o q, h2.at fun o q => k i2 (by simp) o q, h3.at fun o q => k i3 (by simp) o q⟩
  item := by
    intro X hP hw hK hc i pins s σ H E I hf st hg
    subst hP hw hK
    obtain ⟨hz, hTI, ⟨x0, y0, u0, hTO⟩, h1, h2, h3⟩ := st
    obtain ⟨xs, ys, zs, x, y, u, hqx, hqy, hqz, hx, hy, hu⟩ := hg
    obtain ⟨its, rv, p, _⟩ := I.tuple hqx
    obtain ⟨its2, rv2, p2, _⟩ := I.tuple hqy
    obtain ⟨its3, rv3, p3, _⟩ := I.list hqz
    obtain ⟨u1, hu1, ru1⟩ := rv.get hx
    obtain ⟨u2, hu2, ru2⟩ := rv2.get hy
    obtain ⟨u3, hu3, ru3⟩ := rv3.get hu
    have hh : X.A.in1.handled = none := I.ok.hd hc
    have D1 := Draws.tuple (prog := X.prog) (w := X.w) (A := X.A.in1) hh i1 a h1a its.toArray
    have D2 := Draws.tuple (prog := X.prog) (w := X.w) (A := X.A.in1) hh i2 b h2b its2.toArray
    have D3 := Draws.list (prog := X.prog) (w := X.w) (A := X.A.in1) hh i3 c h3c its3.toArray
    have hzl : z < s.heap.objs.size := Heap.lt_size hz
    have lt1 : i < its.toArray.size := by simpa using (List.getElem?_eq_some_iff.mp hu1).1
    have lt2 : i < its2.toArray.size := by simpa using (List.getElem?_eq_some_iff.mp hu2).1
    have lt3 : i < its3.toArray.size := by simpa using (List.getElem?_eq_some_iff.mp hu3).1
    refine wpAny_pyNext_zipD3_item D D1 D2 D3 hz hTI hTO ⟨h1, p⟩ ⟨h2, p2⟩ ⟨h3, p3.isList⟩ lt1 lt2 lt3 fun x1 x2 x3 h' tk q1 q2 q3 z' TO' s1' s2' s3' hT hsz hk => ?_
    have e1 : x1 = u1 := by have q : its[i]? = some x1 := by simpa using q1
                            rw [hu1] at q; exact (Option.some.inj q).symm
    have e2 : x2 = u2 := by have q : its2[i]? = some x2 := by simpa using q2
                            rw [hu2] at q; exact (Option.some.inj q).symm
    have e3 : x3 = u3 := by have q : its3[i]? = some x3 := by simpa using q3
                            rw [hu3] at q; exact (Option.some.inj q).symm
    subst e1 e2 e3
    refine ⟨_, rfl, wpAny_letOwnedTupleGo_zip (s := { s with heap := h', toks := tk }) z' fun h'' z'' sb => ?_⟩
    have hT2 : h''.get? s.heap.objs.size = some { cls := .type "tuple", data := .seq #[x1, x2, x3] } := (sb.2 _ (Nat.ne_of_gt hzl)).trans hT
    have new : ObjOk X.prog X.w (upd H s.heap.objs.size (.tup [x, y, u])) h'' s.heap.objs.size (.tup [x, y, u]) :=
      ⟨by show 3 ≤ sizeLine; decide, [x1, x2, x3], .cons ru1 (.cons ru2 (.cons ru3 .nil)), ⟨_, hT2, rfl, _, rfl⟩⟩
    have I1 : Inv X pins σ (upd H s.heap.objs.size (.tup [x, y, u])) { s with heap := h'', toks := tk } :=
      I.turnedNew (t' := tk) (ch := [z, TI, TO, i1, i2, i3]) (fun d o hb q => (sb.2 d (fun q' => hb (by simp [q']))).trans (hk d o (fun q' => hb (by simp [q'])) (fun q' => hb (by simp [q'])) (fun q' => hb (by simp [q'])) (fun q' => hb (by simp [q'])) (fun q' => hb (by simp [q'])) q)) hf (Nat.le_refl _) new
    refine ⟨.ref s.heap.objs.size, _, I1, rfl, ⟨_, x, y, u, rfl, I.hok.fresh (Nat.le_refl _), rfl, fun l hl => by rw [I.tuple_inj hl hqx]; exact hx, fun l hl => by rw [I.tuple_inj hl hqy]; exact hy, fun l hl => by rw [I.list_inj hl hqz]; exact hu⟩, ⟨z'', ?_, ⟨x1, x2, x3, ?_⟩, ?_, ?_, ?_⟩, fun d hdm => ?_⟩
    · exact (sb.2 _ D.TIz).trans (hk _ _ D.TIz D.TITO D.TIi1 D.TIi2 D.TIi3 hTI)
    · exact (sb.2 _ D.TOz).trans TO'
    · exact s1'.1.at fun o q => (sb.2 _ D.zi1.symm).trans q
    · exact s2'.1.at fun o q => (sb.2 _ D.zi2.symm).trans q
    · exact s3'.1.at fun o q => (sb.2 _ D.zi3.symm).trans q
    · have hlt : d < s.heap.objs.size := by
        have e' : d = z ∨ d = TI ∨ d = TO ∨ d = i1 ∨ d = i2 ∨ d = i3 := by simpa using hdm
        rcases e' with q | q | q | q | q | q
        · rw [q]; exact hzl
        · rw [q]; exact Heap.lt_size hTI
        · rw [q]; exact Heap.lt_size hTO
        · rw [q]; obtain ⟨_, e1, _⟩ := h1; exact Heap.lt_size e1
        · rw [q]; obtain ⟨_, e2, _⟩ := h2; exact Heap.lt_size e2
        · rw [q]; obtain ⟨_, e3, _⟩ := h3; exact Heap.lt_size e3
      rw [upd_ne (Nat.ne_of_lt hlt)]
      exact (hf d hdm).1
  done := by
    intro X hP hw hK hc i pins s σ H E I hf st hg
    subst hP hw hK
    obtain ⟨hz, hTI, ⟨x0, y0, u0, hTO⟩, h1, h2, h3⟩ := st
    obtain ⟨xs, ys, zs, hqx, hqy, hqz, l1, l2, l3⟩ := hg
    obtain ⟨its, rv, p, _⟩ := I.tuple hqx
    obtain ⟨its2, rv2, p2, _⟩ := I.tuple hqy
    obtain ⟨its3, rv3, p3, _⟩ := I.list hqz
    have m1 : i = its.toArray.size := by have := rv.length; simp; omega
    have m2 : i = its2.toArray.size := by have := rv2.length; simp; omega
    have m3 : i = its3.toArray.size := by have := rv3.length; simp; omega
    have hh : X.A.in1.handled = none := I.ok.hd hc
    have D1 := Draws.tuple (prog := X.prog) (w := X.w) (A := X.A.in1) hh i1 a h1a its.toArray
    have D2 := Draws.tuple (prog := X.prog) (w := X.w) (A := X.A.in1) hh i2 b h2b its2.toArray
    have D3 := Draws.list (prog := X.prog) (w := X.w) (A := X.A.in1) hh i3 c h3c its3.toArray
    exact wpAny_pyNext_zipD3_end D D1 D2 D3 hz hTI hTO ⟨h1, p⟩ ⟨h2, p2⟩ ⟨h3, p3.isList⟩ (Nat.le_of_eq m1) (Nat.le_of_eq m2) (Nat.le_of_eq m3) (.inl m1) fun h' tk hk => ⟨rfl, I.turnedL (t' := tk) (ch := [z, TI, TO, i1, i2, i3]) (fun d o hb q =>
      hk d o (fun q' => hb (by simp [q'])) (fun q' => hb (by simp [q'])) (fun q' => hb (by simp [q'])) (fun q' => hb (by simp [q'])) (fun q' => hb (by simp [q'])) q) hf⟩
  self := fun A i s Q E st h => wpAny_pyIter_zip st.1 h
def iZip3 (K : PySem.W.Frag) (ta : TA) : TI := fun σ H R => ta σ H fun vs H1 => ∃ a b c xs ys zs, vs = [.ref a, .ref b, .ref c] ∧ SqT K H1 a xs ∧ SqT K H1 b ys ∧ SqL K H1 c zs ∧ R (Itz3 K a b c) H1
theorem pi_zip3 {X : Cx} {e e2 e3 : Expr} {ta : TA} {p pos tpos : Pos} {elts : List Expr} {kk : Nat} (hg : Gl X "zip") (hm : X.mg "zip" = none) (ha : PA X [e, e2, e3] ta)
    (hs : starEach [e, e2, e3] X.env = (false, eval e X.env) :: starEach [e2, e3] X.env := by rfl) (hpl : (backTo pos (starEach [e2, e3] X.env)).any (·.1) = false := by rfl) :
    PI X (.Tuple elts kk tpos) (.Call (.Name "zip" p) [e, e2, e3] [] pos) (iZip3 X.K ta) := by
  refine ⟨fun pins s σ H R I h => ?_⟩
  refine Call_ (ld_blt I hg hm PyProof.Rows.boot_zip (PyProof.Rows.callWith_type1 (thn (ha.run pos pins s σ H _ I h) fun us s1 ⟨vs, H1, I1, r1, q1⟩ => ?_) hs hpl))
  obtain ⟨a, b, c, xs, ys, zs, ex, hqx, hqy, hqz, q⟩ := q1
  subst ex
  cases r1 with
  | cons r rr =>
    cases rr with
    | cons r' rr =>
      cases rr with
      | cons r'' rr =>
        cases rr
        cases r
        cases r'
        cases r''
        obtain ⟨its, rv, p1, _⟩ := I1.tuple hqx
        obtain ⟨its2, rv2, p2, _⟩ := I1.tuple hqy
        obtain ⟨its3, rv3, p3, _⟩ := I1.list hqz
        have la : a < s1.heap.objs.size := p1.lt
        have lb : b < s1.heap.objs.size := p2.lt
        have lc : c < s1.heap.objs.size := p3.lt
        refine zip_begins3 (begins_tuple a its.toArray) (begins_tuple b its2.toArray) (begins_list c its3.toArray) p1 p2 p3.isList fun h' hz hTI hTO h1 h2 h3 hsz hk => wpAny_pyIter_zip hz ?_
        have I2 : Inv X pins σ H1 { s1 with heap := h' } := I1.kept (t' := s1.toks) hk
        have sep : ZipSep3 (s1.heap.objs.size + 5) (s1.heap.objs.size + 3) (s1.heap.objs.size + 4) s1.heap.objs.size (s1.heap.objs.size + 1) (s1.heap.objs.size + 2) [s1.heap.objs.size, a] [s1.heap.objs.size + 1, b] [s1.heap.objs.size + 2, c] :=
          zip_sep3 (N := s1.heap.objs.size) (fp1 := [a]) (fp2 := [b]) (fp3 := [c]) (fun d hd => by rw [List.mem_singleton.mp hd]; exact la) (fun d hd => by rw [List.mem_singleton.mp hd]; exact lb) (fun d hd => by rw [List.mem_singleton.mp hd]; exact lc)
        refine ⟨s1.heap.objs.size + 5, [s1.heap.objs.size + 5, s1.heap.objs.size + 3, s1.heap.objs.size + 4, s1.heap.objs.size, s1.heap.objs.size + 1, s1.heap.objs.size + 2], _, _, H1, rfl, I2,
          turn_zip3 sep (Nat.ne_of_lt la) (Nat.ne_of_lt (Nat.lt_succ_of_lt lb)) (Nat.ne_of_lt (Nat.lt_succ_of_lt (Nat.lt_succ_of_lt lc))), ⟨hz, hTI, ⟨_, _, _, hTO⟩, ⟨_, h1, rfl, rfl⟩, ⟨_, h2, rfl, rfl⟩, ⟨_, h3, rfl, rfl⟩⟩, fun d hdm => ?_, q⟩
        have e' : d = s1.heap.objs.size + 5 ∨ d = s1.heap.objs.size + 3 ∨ d = s1.heap.objs.size + 4 ∨ d = s1.heap.objs.size ∨ d = s1.heap.objs.size + 1 ∨ d = s1.heap.objs.size + 2 := by simpa using hdm
        have hle : s1.heap.objs.size ≤ d := by
          rcases e' with z | z | z | z | z | z
          · rw [z]; exact Nat.le_add_right _ _
          · rw [z]; exact Nat.le_add_right _ _
          · rw [z]; exact Nat.le_add_right _ _
          · rw [z]; exact Nat.le_refl _
          · rw [z]; exact Nat.le_add_right _ _
          · rw [z]; exact Nat.le_add_right _ _
        exact I1.fpOk hle (I1.hok.fresh hle)
/-- the tuple at a, each item in a new pair with its number -/
def IteT (K : PySem.W.Frag) (a : Addr) : It :=
  ⟨fun i H => ∃ (xs : List V) (x : V), SqT K H a xs ∧ xs[i]? = some x, fun i H v H' => ∃ T x, v = .ref T ∧ H T = none ∧ H' = upd H T (.tup [.int (i : Nat), x]) ∧ ∀ xs, SqT K H a xs → xs[i]? = some x, fun i H => ∃ xs : List V, SqT K H a xs ∧ xs.length = i⟩
theorem turn_enumT {P : Program} {w : World} {K : PySem.W.Frag} {elts : List Expr} {kk : Nat} {tpos : Pos} (a e it : Addr) (hai : a ≠ it) (hae : e ≠ a) :
    Turn P w K (.Tuple elts kk tpos) (IteT K a) [e, it] e (fun i h => (∃ old, IsEnum h e it ((i : Nat) : Int) old) ∧ h.IsTupleIter it a i ∧ e ≠ it) where
  mem := by simp
  obj := fun i h st b hb => by
    obtain ⟨⟨old, he⟩, ⟨o, ho, hc, hd⟩, _⟩ := st
    have e' : b = e ∨ b = it := by simpa using hb
    rcases e' with z | z
    · rw [z]; exact ⟨_, he, fun v q => nomatch q⟩
    · rw [z]; exact ⟨o, ho, fun v q => by rw [hd] at q; cases q⟩
  keep := fun i h h' st k => let ⟨⟨old, he⟩, hi, hne⟩ := st; ⟨⟨old, k e (by simp) _ he⟩, hi.at fun o q => k it (by simp) o q, hne⟩
  item := by
    intro X hP hw hK hc i pins s σ H E I hf st hg
    subst hP hw hK
    obtain ⟨⟨old, he⟩, hit, hne⟩ := st
    obtain ⟨xs, x, hq, hx⟩ := hg
    obtain ⟨its, rv, p, hz⟩ := I.tuple hq
    obtain ⟨u, hu, ru⟩ := rv.get hx
    have hel : e < s.heap.objs.size := Heap.lt_size he
    have hil : it < s.heap.objs.size := by obtain ⟨_, q, _⟩ := hit; exact Heap.lt_size q
    have hh : X.A.in1.handled = none := I.ok.hd hc
    have D1 := Draws.tuple (prog := X.prog) (w := X.w) (A := X.A.in1) hh it a hai its.toArray
    have lt1 : i < its.toArray.size := by simpa using (List.getElem?_eq_some_iff.mp hu).1
    have hef : e ∉ [it, a] := by simp [hne, hae]
    refine wpAny_pyNext_enum_itemD D1 he ⟨hit, p⟩ lt1 hne hef fun x1 h' tk q1 ho st' hT hsz hk => ?_
    have e1 : x1 = u := by have q : its[i]? = some x1 := by simpa using q1
                           rw [hu] at q; exact (Option.some.inj q).symm
    subst e1
    refine ⟨_, rfl, wpAny_letOwnedTupleGo_enum (s := { s with heap := h', toks := tk + 1 }) ho fun h'' he' sb => ?_⟩
    have hT2 : h''.get? s.heap.objs.size = some { cls := .type "tuple", data := .seq #[.int i tk, x1] } := (sb.2 _ (Nat.ne_of_gt hel)).trans hT
    have new : ObjOk X.prog X.w (upd H s.heap.objs.size (.tup [.int (i : Nat), x])) h'' s.heap.objs.size (.tup [.int (i : Nat), x]) :=
      ⟨by show 2 ≤ sizeLine; decide, [.int i tk, x1], .cons ⟨_, rfl⟩ (.cons ru .nil), ⟨_, hT2, rfl, _, rfl⟩⟩
    have I1 : Inv X pins σ (upd H s.heap.objs.size (.tup [.int (i : Nat), x])) { s with heap := h'', toks := tk + 1 } :=
      I.turnedNew (ch := [e, it]) (fun b ob hb q => (sb.2 b (fun z => hb (by simp [z]))).trans (hk b ob (fun z => hb (by simp [z])) (fun z => hb (by simp [z])) q)) hf (Nat.le_refl _) new
    refine ⟨.ref s.heap.objs.size, _, I1, rfl, ⟨_, x, rfl, I.hok.fresh (Nat.le_refl _), rfl, fun ys hy => by rw [I.tuple_inj hy hq]; exact hx⟩, ⟨⟨x1, ?_⟩, st'.1.at fun o q => (sb.2 it (Ne.symm hne)).trans q, hne⟩, fun b hb => ?_⟩
    · have e1 : ((i + 1 : Nat) : Int) = (i : Int) + 1 := by omega
      rw [e1]; exact he'
    · have hb' : b < s.heap.objs.size := by
        have e' : b = e ∨ b = it := by simpa using hb
        rcases e' with z | z
        · rw [z]; exact hel
        · rw [z]; exact hil
      rw [upd_ne (Nat.ne_of_lt hb')]
      exact (hf b hb).1
  done := by
    intro X hP hw hK hc i pins s σ H E I hf st hg
    subst hP hw hK
    obtain ⟨⟨old, he⟩, hit, hne⟩ := st
    obtain ⟨xs, hq, hx⟩ := hg
    obtain ⟨its, rv, p, hz⟩ := I.tuple hq
    obtain ⟨f0, f1, f2, f3, f4, f5⟩ := hf it (by simp)
    have hh : X.A.in1.handled = none := I.ok.hd hc
    have D1 := Draws.tuple (prog := X.prog) (w := X.w) (A := X.A.in1) hh it a hai its.toArray
    have m1 : its.toArray.size = i := by have := rv.length; simp; omega
    refine wpAny_pyNext_enum_endD D1 he ⟨by rw [m1]; exact hit, p⟩ fun h' eb => ⟨rfl, I.turned (t' := s.toks) (fun b o hb q => eb b o hb q) f0 f1 f3 f4 f5⟩
  self := fun A i s Q E st h => let ⟨⟨_, he⟩, _⟩ := st; wpAny_pyIter_enum he h

theorem meets_enumerate_newB1 {v : Value} {o : Obj} {H : Heap → Prop} (B : Begins v o H) :
    Meets (Builtin.«enumerate.__new__» ⟨[.type "enumerate", v], []⟩) (fun _ R s => H s.heap ∧
      R (.ok (.ret (.ref (s.heap.push o).objs.size))) { s with heap := (s.heap.push o).push { cls := .type "enumerate", data := .fields #[.none, .bool false, .ref s.heap.objs.size, rawInt 0, .none, .none] } }) :=
  .of_wp fun prog w A R s h => by
    obtain ⟨hp, g, d, tk, os⟩ := s; obtain ⟨h1, h⟩ := h
    have hsub := sub_enumerate
    have q1 : ∀ {A' : Around} {E : Value → Shared → Prop} {Q : Value → Shared → Prop}, Q (.ref hp.objs.size) ⟨hp.push o, g, d, tk, os⟩ → wpAny (model prog w) A' (pyIter v) Q E ⟨hp, g, d, tk, os⟩ :=
      fun q => B.iter prog w _ _ ⟨hp, g, d, tk, os⟩ _ h1 q
    wp_walk using q1
    refine wpAny_stack_any fun st => wpAny_pure ?_
    split
    · rename_i c _ _ _ _ _
      cases (c == Value.type "enumerate")
      · wp_walk using q1
        exact ⟨_, rfl, h⟩
      · wp_walk using q1
        exact ⟨_, rfl, h⟩
    · wp_walk using q1
      exact ⟨_, rfl, h⟩
theorem enum_begins1 {prog : Program} {w : World} {A : Around} {E : Value → Shared → Prop} {s : Shared} {v : Value} {o : Obj} {H : Heap → Prop} {Q : Value → Shared → Prop} (B : Begins v o H) (h1 : H s.heap)
    (h : ∀ h', IsEnum h' (s.heap.objs.size + 1) s.heap.objs.size 0 .none → h'.get? s.heap.objs.size = some o → h'.objs.size = s.heap.objs.size + 2 →
      (∀ b o, s.heap.get? b = some o → h'.get? b = some o) → Q (.ref (s.heap.objs.size + 1)) { s with heap := h' }) :
    wpAny (model prog w) A (call (.type "enumerate") [v]) Q E s := by
  refine callType_new F.called_enumerate (by decide) (F.typeCall_enumerate_1 _) (F.newCall_enumerate_1 _) (fun obj => F.args_object_init_2 obj _) F.entry_enumerate_new
    (meets_enumerate_newB1 B) ⟨h1, ?_⟩
  have hz : (s.heap.push o).objs.size = s.heap.objs.size + 1 := Heap.size_push ..
  show _ ∧ _
  rw [hz]
  have he : IsEnum ((s.heap.push o).push { cls := .type "enumerate", data := .fields #[.none, .bool false, .ref s.heap.objs.size, rawInt 0, .none, .none] }) (s.heap.objs.size + 1) s.heap.objs.size 0 .none := by
    have := Heap.get?_push_size (s.heap.push o) (o := { cls := .type "enumerate", data := .fields #[.none, .bool false, .ref s.heap.objs.size, rawInt 0, .none, .none] }) rfl
    rw [hz] at this; exact this
  refine ⟨⟨_, he, rfl⟩, h _ he (Heap.get?_push_of_some _ (Heap.get?_push_size _ B.free)) (by rw [Heap.size_push, hz]) fun b o x => Heap.get?_push_of_some _ (Heap.get?_push_of_some _ x)⟩
def iEnumT (K : PySem.W.Frag) (ta : TA) : TI := fun σ H R => ta σ H fun vs H1 => ∃ a xs, vs = [.ref a] ∧ SqT K H1 a xs ∧ R (IteT K a) H1
theorem pi_enumT {X : Cx} {e : Expr} {ta : TA} {p pos tpos : Pos} {elts : List Expr} {kk : Nat} (hg : Gl X "enumerate") (hm : X.mg "enumerate" = none) (ha : PA X [e] ta) (hs : starEach [e] X.env = [(false, eval e X.env)] := by rfl) :
    PI X (.Tuple elts kk tpos) (.Call (.Name "enumerate" p) [e] [] pos) (iEnumT X.K ta) := by
  refine ⟨fun pins s σ H R I h => ?_⟩
  refine Call_ (ld_blt I hg hm boot_enumerate (PyProof.Rows.callWith_type1 (thn (ha.run pos pins s σ H _ I h) fun us s1 ⟨vs, H1, I1, r1, q1⟩ => ?_) hs rfl))
  obtain ⟨a, xs, ex, hq, q⟩ := q1
  subst ex
  cases r1 with
  | cons r rr =>
    cases rr
    cases r
    obtain ⟨its, rv, p', hz⟩ := I1.tuple hq
    have la : a < s1.heap.objs.size := p'.lt
    refine enum_begins1 (begins_tuple a its.toArray) p' fun h' he hit hsz hk => wpAny_pyIter_enum he ?_
    have I2 : Inv X pins σ H1 { s1 with heap := h' } := I1.kept (t' := s1.toks) hk
    refine ⟨s1.heap.objs.size + 1, [s1.heap.objs.size + 1, s1.heap.objs.size], _, _, H1, rfl, I2, turn_enumT a (s1.heap.objs.size + 1) s1.heap.objs.size (Nat.ne_of_lt la) (Nat.ne_of_gt (Nat.lt_succ_of_lt la)), ⟨⟨.none, he⟩, ⟨_, hit, rfl, rfl⟩, Nat.succ_ne_self _⟩, fun b hb => ?_, q⟩
    have e' : b = s1.heap.objs.size + 1 ∨ b = s1.heap.objs.size := by simpa using hb
    have hle : s1.heap.objs.size ≤ b := by
      rcases e' with z | z
      · rw [z]; exact Nat.le_add_right _ _
      · rw [z]; exact Nat.le_refl _
    exact I1.fpOk hle (I1.hok.fresh hle)
end Sw
namespace Sw
open PySem PySem.Spec PyProof.Rows L2 Evl
/-! ### more rules: sum of a tuple -/
section
variable {X : Cx}
def rSumT (K : PySem.W.Frag) : List V → Hp → VK → Prop := fun vs H Q => ∃ (a : Addr) (ns : List Int), vs = [V.ref a] ∧ SqT K H a (ns.map V.int) ∧ Q (.int ns.sum) H
theorem cr_sumT (hc : X.calm = true) : CallR X (.builtin "sum") (rSumT X.K) := by
  intro pins s σ H vs us Q I r h
  obtain ⟨a, ns, rfl, hs, q⟩ := h
  obtain ⟨its, rv, hl, _⟩ := I.tuple hs
  rw [Vals.ref1 r]
  obtain ⟨xs, e⟩ := rv.ints.allInts.items
  have hn : numsOf (intItems xs).toList = ns := by rw [← e]; exact rv.ints.numsOf
  rw [nums_intItems] at hn
  have hl' : s.heap.IsTuple a (intItems xs) := by rw [← e]; exact hl
  refine PySem.W.ktm_sumG (I.ok.hd hc) hl' fun h' tk t' hk => ⟨.int ns.sum, H, I.kept hk, ⟨t', ?_⟩, q⟩
  rw [preSum_eq, List.take_of_length_le (by simp), hn]
theorem ps_no {st : Stmt} : PS X st (fun _ _ _ => False) := ⟨fun _ _ _ _ _ _ h => h.elim⟩
end
/-! ### what they evaluate to -/
section
variable {K : PySem.W.Frag} {σ : L2.St} {H H' : Hp} {ta tb te tx : TE} {x y z v : V}
theorem ev_sumN {ns : List Int} (h : EvL ta σ H (ns.map V.int)) : Ev (tCB (rSum K) (tCons ta tNil)) σ H (.int ns.sum) := fun H1 e Q q =>
  h H1 e _ fun p H2 _ e2 h2 => ⟨p, ns, rfl, sq_of h2, q H2 e2⟩
theorem ev_sumL {a : Addr} {ns : List Int} (h : Ev ta σ H (.ref a)) (hx : SqL K H a (ns.map V.int)) : Ev (tCB (rSum K) (tCons ta tNil)) σ H (.int ns.sum) := fun H1 e Q q =>
  h H1 e _ fun H2 e2 => ⟨a, ns, rfl, ex_l (e.trans e2) hx, q H2 e2⟩
theorem ev_sumT {a : Addr} {ns : List Int} (h : Ev ta σ H (.ref a)) (hx : SqT K H a (ns.map V.int)) : Ev (tCB (rSumT K) (tCons ta tNil)) σ H (.int ns.sum) := fun H1 e Q q =>
  h H1 e _ fun H2 e2 => ⟨a, ns, rfl, ex_t (e.trans e2) hx, q H2 e2⟩
theorem ev_lenT {a : Addr} {xs : List V} (h : Ev ta σ H (.ref a)) (hx : SqT K H a xs) : Ev (tCB (rLenS K) (tCons ta tNil)) σ H (.int (xs.length : Int)) := fun H1 e Q q =>
  h H1 e _ fun H2 e2 => ⟨a, xs, rfl, .inr (ex_t (e.trans e2) hx), q H2 e2⟩
theorem given_all (n : Nat) (v : Nat → V) : given n (fun _ => true) v = (List.range n).map v := by
  unfold given
  rw [List.filter_eq_self.mpr (fun _ _ => rfl)]
theorem et_yes : EvT tYes σ H true := fun H1 _ _ q => q H1 (Ex.refl H1)
/-- the comprehension over range(n), no test -/
theorem el_lcR {ta : TA} {j : Nat} {vs : List Nat} {n : Int} (v : Nat → V) (h : EvA ta σ H [.int n]) (hn : 0 ≤ n ∧ n ≤ 40000) (hw : ∀ x, wipe ((wipe σ vs).set j (some x)) vs = wipe σ vs)
    (he : ∀ (i : Nat) H1, Ex H H1 → (i : Int) < n → Ev te ((wipe σ vs).set j (some (.int (i : Int)))) H1 (v i)) :
    EvL (tLc (iRng1 ta) (gName j) tYes te vs) σ H ((List.range n.toNat).map v) := by
  rw [← given_all]
  exact el_lcR1 (fun _ => true) v h hn hw (fun _ _ _ _ => et_yes) (fun i H1 e hi _ => he i H1 e hi)
theorem atI_at {α : Type} {xs : List α} {i : Int} {d : α} (h0 : 0 ≤ i) (h1 : i < xs.length) : atI xs i = some (xs.getD i.toNat d) := by
  obtain ⟨j, rfl⟩ : ∃ j : Nat, i = (j : Int) := ⟨i.toNat, by omega⟩
  have hj : j < xs.length := by omega
  rw [atI_nat (v := xs[j]) (by simp [hj]), Int.toNat_natCast]
  simp [List.getD, hj]
end
end Sw
namespace Sw
open PySem PySem.Spec PyProof.Rows L2 Evl
/-! ### instances, methods, calls -/
section
variable {K : PySem.W.Frag} {σ : L2.St} {H H' : Hp} {ta tb te tx : TE} {x y z v : V} {a C dx : Addr} {fs : List (Str × V)} {f m : Str}
/-- the instance at a has the field -/
def Fl (H : Hp) (a C : Addr) (f : Str) (v : V) : Prop := ∃ dx fs, H a = some (.ins C dx fs) ∧ fs.lookup f = some v
/-- the instance at a has no such field -/
def NoF (H : Hp) (a C : Addr) (f : Str) : Prop := ∃ dx fs, H a = some (.ins C dx fs) ∧ fs.lookup f = none
theorem Fl.mono (e : Ex H H') (h : Fl H a C f v) : Fl H' a C f v := let ⟨dx, fs, h1, h2⟩ := h; ⟨dx, fs, e _ _ h1, h2⟩
theorem NoF.mono (e : Ex H H') (h : NoF H a C f) : NoF H' a C f := let ⟨dx, fs, h1, h2⟩ := h; ⟨dx, fs, e _ _ h1, h2⟩
theorem ev_fld (h : Ev ta σ H (.ref a)) (hf : Fl H a C f v) (c : Cls K C) (n : NoAttr K C f) : Ev (tFld K ta f) σ H v := fun H1 e Q q =>
  h H1 e _ fun H2 e2 => let ⟨dx, fs, h1, h2⟩ := hf; ⟨a, C, dx, fs, v, rfl, e2 _ _ (e _ _ h1), c, n, h2, q H2 e2⟩
/-- what a method's promise gives -/
theorem ev_meth {sp : Sp} {dvs vs : List V} {E : XK} {t : TA} (h : Ev ta σ H (.ref a)) (nf : NoF H a C m) (hv : EvA t σ H vs) (hs : SpV sp (.ref a :: (vs ++ dvs)) H z) : Ev (tMeth C m sp dvs E ta t) σ H z := fun H1 e Q q =>
  h H1 e _ fun H2 e2 => let ⟨dx, fs, h1, h2⟩ := nf; ⟨a, dx, fs, rfl, e2 _ _ (e _ _ h1), h2, hv H2 (e.trans e2) _ fun H3 e3 => hs H3 ((e.trans e2).trans e3) Q (fun H4 e4 => q H4 ((e2.trans e3).trans e4)) E⟩
theorem el_meth {sp : Sp} {dvs vs xs : List V} {E : XK} {t : TA} (h : Ev ta σ H (.ref a)) (nf : NoF H a C m) (hv : EvA t σ H vs) (hs : SpL sp (.ref a :: (vs ++ dvs)) H xs) : EvL (tMeth C m sp dvs E ta t) σ H xs := fun H1 e Q q =>
  h H1 e _ fun H2 e2 => let ⟨dx, fs, h1, h2⟩ := nf; ⟨a, dx, fs, rfl, e2 _ _ (e _ _ h1), h2, hv H2 (e.trans e2) _ fun H3 e3 => hs H3 ((e.trans e2).trans e3) Q (fun p H4 hp e4 h4 => q p H4 (fresh_back (e2.trans e3) hp) ((e2.trans e3).trans e4) h4) E⟩
/-- a new tuple -/
def SpU (sp : Sp) (vs : List V) (H : Hp) (xs : List V) : Prop := ∀ H1, Ex H H1 → ∀ Q : VK, (∀ p H2, H1 p = none → Ex H1 H2 → H2 p = some (.tup xs) → Q (.ref p) H2) → ∀ E : XK, sp vs H1 Q E
theorem eu_meth {sp : Sp} {dvs vs xs : List V} {E : XK} {t : TA} (h : Ev ta σ H (.ref a)) (nf : NoF H a C m) (hv : EvA t σ H vs) (hs : SpU sp (.ref a :: (vs ++ dvs)) H xs) : EvU (tMeth C m sp dvs E ta t) σ H xs := fun H1 e Q q =>
  h H1 e _ fun H2 e2 => let ⟨dx, fs, h1, h2⟩ := nf; ⟨a, dx, fs, rfl, e2 _ _ (e _ _ h1), h2, hv H2 (e.trans e2) _ fun H3 e3 => hs H3 ((e.trans e2).trans e3) Q (fun p H4 hp e4 h4 => q p H4 (fresh_back (e2.trans e3) hp) ((e2.trans e3).trans e4) h4) E⟩
theorem eu_call {sp : Sp} {dvs vs xs : List V} {E : XK} {ta : TA} (h : EvA ta σ H vs) (hs : SpU sp (vs ++ dvs) H xs) : EvU (tCall sp dvs E ta) σ H xs := fun H1 e Q q =>
  h H1 e _ fun H2 e2 => hs H2 (e.trans e2) Q (fun p H3 hp e3 h3 => q p H3 (fresh_back e2 hp) (e2.trans e3) h3) E
/-- an item of what a call hands back -/
theorem ev_ixNL {xs : List V} {i : Int} (h : EvL ta σ H xs) (hb : Ev tb σ H (.int i)) (ha : atI xs i = some v) : Ev (tOp (rIxL K) ta tb) σ H v := ev_opL1 h (fun H1 e => hb.mono e) fun p H1 hp _ => rv_ixL (K := K) (sq_of hp) ha
theorem ev_ixNU {xs : List V} {i : Int} (h : EvU ta σ H xs) (hb : Ev tb σ H (.int i)) (ha : atI xs i = some v) : Ev (tOp (rIxT K) ta tb) σ H v := fun H1 e Q q =>
  h H1 e _ fun p H2 _ e2 hp => hb H2 (e.trans e2) _ fun H3 e3 => rv_ixT (K := K) (st_of (e3 p _ hp)) ha H3 (Ex.refl H3) Q fun H4 e4 => q H4 ((e2.trans e3).trans e4)
theorem ev_ixL {p : Addr} {xs : List V} {i : Int} (h : Ev ta σ H (.ref p)) (hx : SqL K H p xs) (hb : Ev tb σ H (.int i)) (ha : atI xs i = some v) : Ev (tOp (rIxL K) ta tb) σ H v := ev_op h hb (rv_ixL hx ha)
theorem ev_ixT {p : Addr} {xs : List V} {i : Int} (h : Ev ta σ H (.ref p)) (hx : SqT K H p xs) (hb : Ev tb σ H (.int i)) (ha : atI xs i = some v) : Ev (tOp (rIxT K) ta tb) σ H v := ev_op h hb (rv_ixT hx ha)
/-- the smaller, the greater of two -/
def rMn : List V → Hp → VK → Prop := fun xs H Q => ∃ i j, xs = [.int i, .int j] ∧ Q (.int (if j < i then j else i)) H
theorem ev_min2 {i j : Int} (ha : Ev ta σ H (.int i)) (hb : Ev tb σ H (.int j)) : Ev (tCB rMn (tCons ta (tCons tb tNil))) σ H (.int (min i j)) := fun H1 e Q q =>
  ha H1 e _ fun H2 e2 => hb H2 (e.trans e2) _ fun H3 e3 => ⟨i, j, rfl, by
    have z : (if j < i then j else i) = min i j := by omega
    rw [z]; exact q H3 (e2.trans e3)⟩
theorem ev_maxi {i j : Int} (ha : Ev ta σ H (.int i)) (hb : Ev tb σ H (.int j)) : Ev (tCB rMax2 (tCons ta (tCons tb tNil))) σ H (.int (max i j)) := by
  have z : (if j > i then j else i) = max i j := by omega
  rw [← z]; exact ev_max2 ha hb
/-- divmod: a new pair -/
def rDm : List V → Hp → VK → Prop := fun xs H Q => ∃ i j, xs = [.int i, .int j] ∧ CDiv i j ∧ ∀ p, H p = none → Q (.ref p) (upd H p (.tup [.int (i / j), .int (i % j)]))
theorem eu_dm {i j : Int} (ha : Ev ta σ H (.int i)) (hb : Ev tb σ H (.int j)) (hc : CDiv i j) : EvU (tCB rDm (tCons ta (tCons tb tNil))) σ H [.int (i / j), .int (i % j)] := fun H1 e Q q =>
  ha H1 e _ fun H2 e2 => hb H2 (e.trans e2) _ fun H3 e3 => ⟨i, j, rfl, hc, fun p hp => q p _ (fresh_back (e2.trans e3) hp) ((e2.trans e3).trans (Ex.new hp)) upd_same⟩
theorem eu_tup {t : TA} {xs : List V} (h : EvA t σ H xs) (hz : xs.length ≤ 100000) : EvU (tTup t) σ H xs := fun H1 e Q q =>
  h H1 e _ fun H2 e2 => ⟨sz_of hz, fun p hp => q p _ (fresh_back e2 hp) (e2.trans (Ex.new hp)) upd_same⟩
theorem el_lst {t : TA} {xs : List V} (h : EvA t σ H xs) (hz : xs.length ≤ 100000) : EvL (tLst t) σ H xs := fun H1 e Q q =>
  h H1 e _ fun H2 e2 => ⟨sz_of hz, fun p hp => q p _ (fresh_back e2 hp) (e2.trans (Ex.new hp)) upd_same⟩
theorem Ev.int_eq {i j : Int} (h : Ev te σ H (.int i)) (e : i = j) : Ev te σ H (.int j) := e ▸ h
/-- a, b = a new pair -/
theorem s_pair {i j : Nat} {D : Ends} {x y : V} (h : EvU te σ H [x, y]) (k : ∀ H1, Ex H H1 → D.nx ((σ.set i (some x)).set j (some y)) H1) : tAsg te (gTup K 2 (gCons (gName i) (gCons (gName j) gNil))) D σ H :=
  h H (Ex.refl H) _ fun p H1 _ e hp => ⟨p, [x, y], rfl, st_of hp, rfl, x, [y], rfl, y, [], rfl, rfl, k H1 e⟩
theorem q_pair {i j : Nat} {D : Ends} {x y : V} {tz : TS} (h : EvU te σ H [x, y]) (k : ∀ H1, Ex H H1 → tz D ((σ.set i (some x)).set j (some y)) H1) : tSeq (tAsg te (gTup K 2 (gCons (gName i) (gCons (gName j) gNil)))) tz D σ H :=
  s_pair (D := { D with nx := tz D }) h k
end
/-! ### the rules with the written part named -/
section
variable {X : Cx}
theorem pe_fldK (K : PySem.W.Frag) {e : Expr} {f : Str} {pos : Pos} {ta : TE} (hK : X.K = K) (he : PE X e ta) (hb : attributeBase e f X.env (eval e X.env) = eval e X.env) : PE X (.Attribute e f pos) (tFld K ta f) := by
  subst hK; exact pe_fld he hb
theorem pi_listK (K : PySem.W.Frag) {tg l : Expr} {tl : TE} (hK : X.K = K) (hl : PE X l tl) : PI X tg l (iList K tl) := by
  subst hK; exact pi_list hl
theorem pi_tupK (K : PySem.W.Frag) {tg l : Expr} {tl : TE} (hK : X.K = K) (hl : PE X l tl) : PI X tg l (iTup K tl) := by
  subst hK; exact pi_tup hl
theorem pi_enumTK (K : PySem.W.Frag) {e : Expr} {ta : TA} {p pos tpos : Pos} {elts : List Expr} {kk : Nat} (hK : X.K = K) (hg : Gl X "enumerate") (hm : X.mg "enumerate" = none) (ha : PA X [e] ta) (hs : starEach [e] X.env = [(false, eval e X.env)] := by rfl) :
    PI X (.Tuple elts kk tpos) (.Call (.Name "enumerate" p) [e] [] pos) (iEnumT K ta) := by
  subst hK; exact pi_enumT hg hm ha hs
theorem pg_tupK (K : PySem.W.Frag) {es : List Expr} {k : Nat} {t : TGs} {n : Nat} {pos : Pos} (hK : X.K = K) (hc : X.calm = true) (h : PGs X es t)
    (hn : (assignEach es X.env).length = n := by rfl) (hst : (assignEach es X.env).findIdx? (·.1) = none := by rfl) : PG X (.Tuple es k pos) (gTup K n t) := by
  subst hK; exact pg_tup hc h hn hst
end
/-! ### the promises' shapes -/
def RetU (xs : List V) (H : Hp) (Q : VK) : Prop := ∀ p H2, H p = none → Ex H H2 → H2 p = some (.tup xs) → Q (.ref p) H2
end Sw
namespace Sw
open PySem PySem.Spec PyProof.Rows L2 Evl
section
variable {K : PySem.W.Frag} {σ : L2.St} {H H' : Hp} {ta tb te tx : TE} {x y z v : V} {a C dx : Addr} {fs : List (Str × V)} {f m : Str} {D : Ends} {tz : TS}
/-- o.f = e -/
theorem q_fld (h : Ev te σ H v) (ho : ∀ H1, Ex H H1 → Ev ta σ H1 (.ref a)) (hx : H a = some (.ins C dx fs)) (c : Cls K C) (n : NoAttr K C f) (hl : fs.length < 1000) (k : ∀ H1, Ex H H1 → tz D σ (upd H1 a (.ins C dx (putF f v fs)))) : tSeq (sFld K ta te f) tz D σ H :=
  h H (Ex.refl H) _ fun H1 e1 => ho H1 e1 H1 (Ex.refl H1) _ fun H2 e2 => ⟨a, C, dx, fs, rfl, e2 _ _ (e1 _ _ hx), c, n, hl, k H2 (e1.trans e2)⟩
theorem s_fld (h : Ev te σ H v) (ho : ∀ H1, Ex H H1 → Ev ta σ H1 (.ref a)) (hx : H a = some (.ins C dx fs)) (c : Cls K C) (n : NoAttr K C f) (hl : fs.length < 1000) (k : ∀ H1, Ex H H1 → D.nx σ (upd H1 a (.ins C dx (putF f v fs)))) : sFld K ta te f D σ H :=
  h H (Ex.refl H) _ fun H1 e1 => ho H1 e1 H1 (Ex.refl H1) _ fun H2 e2 => ⟨a, C, dx, fs, rfl, e2 _ _ (e1 _ _ hx), c, n, hl, k H2 (e1.trans e2)⟩
theorem q_fldL {xs : List V} (h : EvL te σ H xs) (ho : ∀ H1, Ex H H1 → Ev ta σ H1 (.ref a)) (hx : H a = some (.ins C dx fs)) (c : Cls K C) (n : NoAttr K C f) (hl : fs.length < 1000) (k : ∀ p H1, H p = none → Ex H H1 → H1 p = some (.lst xs) → tz D σ (upd H1 a (.ins C dx (putF f (.ref p) fs)))) : tSeq (sFld K ta te f) tz D σ H :=
  h H (Ex.refl H) _ fun p H1 hp e1 h1 => ho H1 e1 H1 (Ex.refl H1) _ fun H2 e2 => ⟨a, C, dx, fs, rfl, e2 _ _ (e1 _ _ hx), c, n, hl, k p H2 hp (e1.trans e2) (e2 _ _ h1)⟩
theorem s_fldL {xs : List V} (h : EvL te σ H xs) (ho : ∀ H1, Ex H H1 → Ev ta σ H1 (.ref a)) (hx : H a = some (.ins C dx fs)) (c : Cls K C) (n : NoAttr K C f) (hl : fs.length < 1000) (k : ∀ p H1, H p = none → Ex H H1 → H1 p = some (.lst xs) → D.nx σ (upd H1 a (.ins C dx (putF f (.ref p) fs)))) : sFld K ta te f D σ H :=
  h H (Ex.refl H) _ fun p H1 hp e1 h1 => ho H1 e1 H1 (Ex.refl H1) _ fun H2 e2 => ⟨a, C, dx, fs, rfl, e2 _ _ (e1 _ _ hx), c, n, hl, k p H2 hp (e1.trans e2) (e2 _ _ h1)⟩
theorem s_fldU {xs : List V} (h : EvU te σ H xs) (ho : ∀ H1, Ex H H1 → Ev ta σ H1 (.ref a)) (hx : H a = some (.ins C dx fs)) (c : Cls K C) (n : NoAttr K C f) (hl : fs.length < 1000) (k : ∀ p H1, H p = none → Ex H H1 → H1 p = some (.tup xs) → D.nx σ (upd H1 a (.ins C dx (putF f (.ref p) fs)))) : sFld K ta te f D σ H :=
  h H (Ex.refl H) _ fun p H1 hp e1 h1 => ho H1 e1 H1 (Ex.refl H1) _ fun H2 e2 => ⟨a, C, dx, fs, rfl, e2 _ _ (e1 _ _ hx), c, n, hl, k p H2 hp (e1.trans e2) (e2 _ _ h1)⟩
/-- the heap, the one object at x forgotten -/
def wo (H : Hp) (x : Addr) : Hp := fun b => if b = x then none else H b
theorem wo_self {H : Hp} {x : Addr} : wo H x x = none := by unfold wo; rw [if_pos rfl]
theorem wo_ne {H : Hp} {x b : Addr} (h : b ≠ x) : wo H x b = H b := by unfold wo; rw [if_neg h]
theorem wo_ex {H : Hp} {x : Addr} : Ex (wo H x) H := fun b o h => by
  by_cases e : b = x
  · rw [e, wo_self] at h; cases h
  · rwa [wo_ne e] at h
theorem wo_t {H : Hp} {x a : Addr} {xs : List V} {o : HO} (hx : H x = some o) (ho : ∀ u v, o ≠ .frz u v) (hn : ∀ ys, o ≠ .tup ys) (h : SqT K H a xs) : SqT K (wo H x) a xs := by
  rcases h with (h | ⟨u, h⟩) | h
  · refine .inl (.inl ?_)
    rw [wo_ne]
    · exact h
    · intro e; rw [e, hx] at h; exact hn xs (Option.some.inj h)
  · refine .inl (.inr ⟨u, ?_⟩)
    rw [wo_ne]
    · exact h
    · intro e; rw [e, hx] at h; exact ho u _ (Option.some.inj h)
  · exact .inr h
end
end Sw
namespace Sw
open PySem PySem.Spec PyProof.Rows L2 Evl
/-! ### walks of three, and of a tuple's items with their numbers -/
section
variable {K : PySem.W.Frag} {σ : L2.St} {H H' : Hp} {ta tb te tx tl : TE} {x y z v : V} {a b c : Addr} {xs ys zs : List V} {n : Nat}
def YTrip (xs ys zs : List V) : Nat → Hp → V → Hp → Prop := fun i H v H' => ∃ T x y z, v = .ref T ∧ H T = none ∧ H' = upd H T (.tup [x, y, z]) ∧ xs[i]? = some x ∧ ys[i]? = some y ∧ zs[i]? = some z
theorem walk_zip3 (lx : xs.length = n) (ly : ys.length = n) (lz : zs.length = n) : Walk (Itz3 K a b c) n (fun H => SqT K H a xs ∧ SqT K H b ys ∧ SqL K H c zs) (YTrip xs ys zs) := by
  refine ⟨fun i _ hi q => ⟨xs, ys, zs, xs[i]'(by omega), ys[i]'(by omega), zs[i]'(by omega), q.1, q.2.1, q.2.2, by simp, by simp, by simp⟩, fun _ q => ⟨xs, ys, zs, q.1, q.2.1, q.2.2, lx, ly, lz⟩, fun i H v H' _ q h => ?_⟩
  obtain ⟨T, x, y, z, h1, h2, h3, h4, h5, h6⟩ := h
  exact ⟨T, x, y, z, h1, h2, h3, h4 xs q.1, h5 ys q.2.1, h6 zs q.2.2⟩
theorem walk_enumT : Walk (IteT K a) xs.length (fun H => SqT K H a xs) (YPair (fun i => some (.int (i : Nat))) (fun i => xs[i]?)) := by
  refine ⟨fun i _ hi q => ⟨xs, xs[i], q, by simp⟩, fun _ q => ⟨xs, q, rfl⟩, fun i H v H' _ q h => ?_⟩
  obtain ⟨T, x, h1, h2, h3, h4⟩ := h
  exact ⟨T, .int (i : Nat), x, h1, h2, h3, rfl, h4 xs q⟩
variable {D : Ends} {tu tz : TS}
theorem q_forZ3 {tt : TA} {j1 j2 j3 : Nat} {G : Hp} (h : EvA tt σ H [.ref a, .ref b, .ref c]) (eG : Ex G H) (hx : SqT K G a xs) (hy : SqT K G b ys) (hz : SqL K G c zs) (lx : xs.length = n) (ly : ys.length = n) (lz : zs.length = n)
    (Pv : Nat → L2.St → Hp → Prop) (h0 : ∀ H1, Ex H H1 → Pv 0 σ H1) (hG : ∀ i σ' H', i ≤ n → Pv i σ' H' → Ex G H')
    (hs : ∀ i x y z σ' H', xs[i]? = some x → ys[i]? = some y → zs[i]? = some z → Pv i σ' H' → ∀ H2, Ex H' H2 → tu { D with nx := Pv (i + 1), ct := Pv (i + 1), bk := tz D } (((σ'.set j1 (some x)).set j2 (some y)).set j3 (some z)) H2)
    (hd : ∀ σ' H', Pv n σ' H' → tz D σ' H') : tSeq (tFor (iZip3 K tt) (gTup K 3 (gCons (gName j1) (gCons (gName j2) (gCons (gName j3) gNil)))) tu) tz D σ H :=
  h H (Ex.refl H) _ fun H1 e1 => ⟨a, b, c, xs, ys, zs, rfl, ex_t (eG.trans e1) hx, ex_t (eG.trans e1) hy, ex_l (eG.trans e1) hz,
    for_it (walk_zip3 lx ly lz) Pv (h0 H1 e1) (fun i σ' H' hi p => ⟨ex_t (hG i σ' H' hi p) hx, ex_t (hG i σ' H' hi p) hy, ex_l (hG i σ' H' hi p) hz⟩)
      (fun i v σ' H' H2 hi p q => by
        obtain ⟨T, x, y, z, rfl, hT, rfl, q1, q2, q3⟩ := q
        exact ⟨T, [x, y, z], rfl, st_of upd_same, rfl, x, [y, z], rfl, y, [z], rfl, z, [], rfl, rfl, hs i x y z σ' H' q1 q2 q3 p _ (Ex.new hT)⟩) hd⟩
/-- for i, x in enumerate(t), t a tuple -/
theorem s_forEnT {tt : TA} {j1 j2 : Nat} (h : EvA tt σ H [.ref a]) (hx : SqT K H a xs)
    (Pv : Nat → L2.St → Hp → Prop) (h0 : ∀ H1, Ex H H1 → Pv 0 σ H1) (hG : ∀ i σ' H', i ≤ xs.length → Pv i σ' H' → Ex H H')
    (hs : ∀ i x σ' H', xs[i]? = some x → Pv i σ' H' → ∀ H2, Ex H' H2 → tu { D with nx := Pv (i + 1), ct := Pv (i + 1), bk := D.nx } ((σ'.set j1 (some (.int (i : Nat)))).set j2 (some x)) H2)
    (hd : ∀ σ' H', Pv xs.length σ' H' → D.nx σ' H') : tFor (iEnumT K tt) (gTup K 2 (gCons (gName j1) (gCons (gName j2) gNil))) tu D σ H :=
  h H (Ex.refl H) _ fun H1 e1 => ⟨a, xs, rfl, ex_t e1 hx,
    for_it walk_enumT Pv (h0 H1 e1) (fun i σ' H' hi p => ex_t (hG i σ' H' hi p) hx)
      (fun i v σ' H' H2 hi p q => by
        obtain ⟨T, x, y, rfl, hT, rfl, q1, q2⟩ := q
        cases q1
        exact ⟨T, [.int (i : Nat), y], rfl, st_of upd_same, rfl, .int (i : Nat), [y], rfl, y, [], rfl, rfl, hs i y σ' H' q2 p _ (Ex.new hT)⟩) hd⟩
/-- [e for i, x in enumerate(t)] -/
theorem el_lcEnT {tt : TA} {j1 j2 : Nat} {vs : List Nat} (v : Nat → V) (h : EvA tt σ H [.ref a]) (hx : SqT K H a xs) (hz : xs.length ≤ 40000)
    (hw : ∀ x y, wipe (((wipe σ vs).set j1 (some x)).set j2 (some y)) vs = wipe σ vs)
    (he : ∀ (i : Nat) (x : V) H1, Ex H H1 → xs[i]? = some x → Ev te (((wipe σ vs).set j1 (some (.int (i : Nat)))).set j2 (some x)) H1 (v i)) :
    EvL (tLc (iEnumT K tt) (gTup K 2 (gCons (gName j1) (gCons (gName j2) gNil))) tYes te vs) σ H ((List.range xs.length).map v) := fun H0 e0 Q q =>
  h H0 e0 _ fun H1 e1 => ⟨a, xs, rfl, ex_t (e0.trans e1) hx, fun Dl hD => by
    rw [← given_all] at q
    refine lc_it (walk_enumT (xs := xs)) (Cw H1 (fun _ => true) v Dl) ⟨hD, Ex.new hD, upd_same⟩ (fun i H' _ p => ex_t ((e0.trans e1).trans p.2.1) hx) (fun i w H' H2 hi p y => ?_) (fun H' p => q Dl H' (fresh_back e1 p.1) (e1.trans p.2.1) p.2.2)
    obtain ⟨T, x, y, rfl, hT, rfl, q1, q2⟩ := y
    cases q1
    have p2 : Cw H1 (fun _ => true) v Dl i (upd H' T (.tup [.int (i : Nat), y])) := ⟨p.1, p.2.1.trans (Ex.new hT), by rw [upd_ne (ne_of_none p.2.2 hT)]; exact p.2.2⟩
    refine ⟨T, [.int (i : Nat), y], rfl, st_of upd_same, rfl, .int (i : Nat), [y], rfl, y, [], rfl, rfl, hw _ _, ?_⟩
    exact cw_turn p2 (by omega) et_yes (fun _ => he i y H1 (e0.trans e1) q2)⟩
/-- some tuple, some list of these items -/
def EvW (K : PySem.W.Frag) (te : TE) (σ : L2.St) (H : Hp) (xs : List V) : Prop := ∀ H1, Ex H H1 → ∀ Q : VK, (∀ p H2, Ex H1 H2 → SqT K H2 p xs → Q (.ref p) H2) → te σ H1 Q
def EvM (K : PySem.W.Frag) (te : TE) (σ : L2.St) (H : Hp) (xs : List V) : Prop := ∀ H1, Ex H H1 → ∀ Q : VK, (∀ p H2, Ex H1 H2 → SqL K H2 p xs → Q (.ref p) H2) → te σ H1 Q
theorem EvU.w (h : EvU te σ H xs) : EvW K te σ H xs := fun H1 e Q q => h H1 e Q fun p H2 _ e2 hp => q p H2 e2 (st_of hp)
theorem EvL.m (h : EvL te σ H xs) : EvM K te σ H xs := fun H1 e Q q => h H1 e Q fun p H2 _ e2 hp => q p H2 e2 (sq_of hp)
theorem ew_of (h : Ev te σ H (.ref a)) (hx : SqT K H a xs) : EvW K te σ H xs := fun H1 e Q q => h H1 e Q fun H2 e2 => q a H2 e2 (ex_t (e.trans e2) hx)
theorem em_of (h : Ev te σ H (.ref a)) (hx : SqL K H a xs) : EvM K te σ H xs := fun H1 e Q q => h H1 e Q fun H2 e2 => q a H2 e2 (ex_l (e.trans e2) hx)
theorem ev_sumW {ns : List Int} (h : EvW K ta σ H (ns.map V.int)) : Ev (tCB (rSumT K) (tCons ta tNil)) σ H (.int ns.sum) := fun H1 e Q q =>
  h H1 e _ fun p H2 e2 h2 => ⟨p, ns, rfl, h2, q H2 e2⟩
theorem ev_sumM {ns : List Int} (h : EvM K ta σ H (ns.map V.int)) : Ev (tCB (rSum K) (tCons ta tNil)) σ H (.int ns.sum) := fun H1 e Q q =>
  h H1 e _ fun p H2 e2 h2 => ⟨p, ns, rfl, h2, q H2 e2⟩
/-- t[:k] -/
theorem ew_take {th : TE} {k : Nat} (h : EvW K te σ H xs) (hk : Ev th σ H (.int (k : Int))) : EvW K (tSl (rSlA K) te tNoPart (tPart th)) σ H (xs.take k) := fun H1 e Q q =>
  h H1 e _ fun p H2 e2 h2 => hk H2 (e.trans e2) _ fun H3 e3 => ⟨(k : Int), rfl, p, xs, rfl, ex_t e3 h2, fun w => by
      have hi : min k xs.length = xs.length := by rw [← HT.sIx_nat xs.length xs.length k]; exact w.2
      have t : xs.take k = xs := List.take_of_length_le (by omega)
      rw [t] at q
      exact q p H3 (e2.trans e3) (ex_t e3 h2), fun _ r hr => by
      refine q r _ ((e2.trans e3).trans (Ex.new hr)) (st_of ?_)
      rw [upd_same]
      unfold cutV
      rw [HT.sIx_none, HT.sIx_nat]
      simp⟩
/-- xs[:k] of a list -/
theorem el_take {th : TE} {k : Nat} (h : EvM K te σ H xs) (hk : Ev th σ H (.int (k : Int))) : EvL (tSl (rSlL K) te tNoPart (tPart th)) σ H (xs.take k) := fun H1 e Q q =>
  h H1 e _ fun p H2 e2 h2 => hk H2 (e.trans e2) _ fun H3 e3 => ⟨(k : Int), rfl, p, xs, rfl, ex_l e3 h2, fun r hr => by
      refine q r _ (fresh_back (e2.trans e3) hr) ((e2.trans e3).trans (Ex.new hr)) ?_
      rw [upd_same]
      unfold cutV
      rw [HT.sIx_none, HT.sIx_nat]
      simp⟩
end
end Sw
namespace Sw
open PySem PySem.Spec PyProof.Rows L2 Evl
/-! ### max of a tuple of numbers -/
section
variable {prog : Program} {w : World} {A : Around} {E : Value → Shared → Prop} {s : Shared} {t : Addr} {xs : Array (Int × Tok)}
theorem max_intTup {Q : Value → Shared → Prop} (hh : A.handled = none) (ht : s.heap.IsTuple t (intItems xs)) (hne : 0 < xs.size)
    (h : ∀ v h' tk, (intItems xs)[argBest (fun i j => decide (numAt xs i > numAt xs j)) (xs.size - 1)]? = some v → (∀ b o, s.heap.get? b = some o → h'.get? b = some o) → Q v { s with heap := h', toks := tk }) :
    wpAny (model prog w) A (call (.builtin "max") [.ref t]) Q E s := by
  obtain ⟨o, ho, _, _, _⟩ := id ht
  have hlt : t < s.heap.objs.size := Heap.lt_size ho
  have hne' : t ≠ s.heap.objs.size := Nat.ne_of_lt hlt
  refine call_max_walk (wpAny_pyIter_tuple ht ?_)
  refine ⟨_, _, _, _, _, _, _, rfl, Walks.tuple (A := A.in1) hh _ t hne' (intItems xs), ⟨⟨_, Heap.get?_push_size _ rfl, rfl, rfl⟩, ht.at fun o e => Heap.get?_push_of_some _ e⟩, fun b hb => ?_, by simpa [intItems] using hne, CmpOf.ints_gt (numAt xs) (fun _ _ => intItems_at), fun v h' tk hP hk => ?_⟩
  · show b < (s.heap.push _).objs.size
    rw [Heap.size_push]
    rcases List.mem_cons.mp hb with rfl | hb
    · exact Nat.lt_succ_self _
    · rw [List.mem_singleton.mp hb]; exact Nat.lt_succ_of_lt hlt
  · refine h v h' tk (by simpa [intItems] using hP) fun b o e => hk b o (fun hm => ?_) (Heap.get?_push_of_some _ e)
    exact absurd (List.mem_singleton.mp hm ▸ Heap.lt_size e) (Nat.lt_irrefl _)
end
section
variable {X : Cx}
def rMaxT (K : PySem.W.Frag) : List V → Hp → VK → Prop := fun vs H Q => ∃ (a : Addr) (ns : List Int), vs = [V.ref a] ∧ SqT K H a (ns.map V.int) ∧ 0 < ns.length ∧ ∀ m, m ∈ ns → (∀ y, y ∈ ns → y ≤ m) → Q (.int m) H
theorem cr_maxT (hc : X.calm = true) : CallR X (.builtin "max") (rMaxT X.K) := by
  intro pins s σ H vs us Q I r h
  obtain ⟨a, ns, rfl, hs, hne, q⟩ := h
  obtain ⟨its, rv, hl, _⟩ := I.tuple hs
  rw [Vals.ref1 r]
  obtain ⟨xs, e⟩ := rv.ints.allInts.items
  have hn : numsOf (intItems xs).toList = ns := by rw [← e]; exact rv.ints.numsOf
  rw [nums_intItems] at hn
  subst hn
  have hl' : s.heap.IsTuple a (intItems xs) := by rw [← e]; exact hl
  have hsz : 0 < xs.size := by simpa using hne
  refine max_intTup (I.ok.hd hc) hl' hsz fun v h' tk hv hk => ?_
  obtain ⟨t', rfl⟩ := intItems_at hv
  obtain ⟨h1, h2⟩ := argBest_gt (numAt xs) (xs.size - 1)
  refine ⟨.int _, H, I.kept hk, ⟨t', rfl⟩, q _ ?_ fun y hy => ?_⟩
  · rw [numAt_eq]; exact PySem.getD_mem (by rw [List.length_map, Array.length_toList]; omega)
  · obtain ⟨j, hj, rfl⟩ := mem_getD hy
    rw [List.length_map, Array.length_toList] at hj
    rw [← numAt_eq]; exact h2 j (by omega)
end
theorem ev_maxT {K : PySem.W.Frag} {σ : L2.St} {H : Hp} {ta : TE} {a : Addr} {ns : List Int} {Qm : Int → Prop} (h : Ev ta σ H (.ref a)) (hx : SqT K H a (ns.map V.int)) (h0 : 0 < ns.length) :
    ∀ H1, Ex H H1 → ∀ Q : VK, (∀ m H2, Ex H1 H2 → m ∈ ns → (∀ y ∈ ns, y ≤ m) → Q (.int m) H2) → tCB (rMaxT K) (tCons ta tNil) σ H1 Q := fun H1 e Q q =>
  h H1 e _ fun H2 e2 => ⟨a, ns, rfl, ex_t (e.trans e2) hx, h0, fun m hm hle => q m H2 e2 hm hle⟩
end Sw
namespace Sw
open PySem PySem.Spec PyProof.Rows L2 Evl
section
variable {K : PySem.W.Frag} {σ : L2.St} {H H' : Hp} {ta tb te tl : TE} {x y z v : V} {a b : Addr} {xs ys : List V}
theorem ev_isN (h : Ev ta σ H x) : Ev (tIsN ta) σ H (.bl (decide (x = .non))) := fun H1 e1 Q q => h H1 e1 _ fun H2 e2 => q H2 e2
theorem ev_eqNil (ha : EvL ta σ H xs) (hb : EvL tb σ H []) (hx : xs = []) : Ev (tOp (rEqD K) ta tb) σ H (.bl true) := ev_opLL ha hb fun p q H1 hp hq _ => fun H2 e2 Q k => by
  subst hx
  exact ⟨.list [], .list [], .lst (sq_of (e2 _ _ hp)) .nil, .lst (sq_of (e2 _ _ hq)) .nil, by decide, by decide, by
    have : PyData.eqv (.list []) (.list []) = true := by decide
    rw [this]; exact k H2 (Ex.refl _)⟩
theorem given_none {n : Nat} {f : Nat → Bool} {v : Nat → V} (h : ∀ i, i < n → f i = false) : given n f v = [] := by
  unfold given
  have : (List.range n).filter f = [] := List.filter_eq_nil_iff.mpr fun i hi => by rw [h i (List.mem_range.mp hi)]; decide
  rw [this]; rfl
/-- two new lists, joined -/
theorem el_catN (ha : EvL ta σ H xs) (hb : EvL tb σ H ys) (hz : xs.length + ys.length ≤ 100000) : EvL (tOp rCat ta tb) σ H (xs ++ ys) := fun H1 e Q q =>
  ha H1 e _ fun p H2 _ e2 hp => hb H2 (e.trans e2) _ fun r H3 _ e3 hr => ⟨p, r, xs, ys, rfl, rfl, e3 _ _ hp, hr, sz_of hz, fun t ht => q t _ (fresh_back (e2.trans e3) ht) ((e2.trans e3).trans (Ex.new ht)) upd_same⟩
theorem el_lcRb {t : TA} {j : Nat} {vs : List Nat} {lo n : Int} (v : Nat → V) (h : EvA t σ H [.int lo, .int n]) (hn : 0 ≤ lo ∧ lo ≤ 10000 ∧ 0 ≤ n ∧ n ≤ 10000) (hw : ∀ x, wipe ((wipe σ vs).set j (some x)) vs = wipe σ vs)
    (he : ∀ (i : Nat) H1, Ex H H1 → lo + (i : Int) < n → Ev te ((wipe σ vs).set j (some (.int (lo + (i : Int))))) H1 (v i)) : EvL (tLc (iRng2 t) (gName j) tYes te vs) σ H ((List.range (n - lo).toNat).map v) := fun H0 e Q q => h H0 e _ fun H1 e1 => by
  rw [← given_all] at q
  exact ⟨lo, n, rfl, ⟨by omega, by omega, by omega, by omega⟩, fun Dl hD =>
    lc_range (lo := lo) (n := (n - lo).toNat) (Cw H1 (fun _ => true) v Dl) ⟨hD, Ex.new hD, upd_same⟩ (fun i H' hi p => ⟨hw _, cw_turn p (by omega) et_yes (fun _ => he i H1 (e.trans e1) (by omega))⟩) (fun H' p => q Dl H' (fresh_back e1 p.1) (e1.trans p.2.1) p.2.2)⟩
end
end Sw
namespace Sw
open PySem PySem.Spec PyProof.Rows L2 Evl
/-- the heap, the objects of N forgotten -/
noncomputable def wn (H : Hp) (N : Addr → Prop) : Hp := fun b => @ite _ (N b) (Classical.propDecidable _) none (H b)
theorem wn_in {H : Hp} {N : Addr → Prop} {b : Addr} (h : N b) : wn H N b = none := by unfold wn; rw [if_pos h]
theorem wn_ni {H : Hp} {N : Addr → Prop} {b : Addr} (h : ¬ N b) : wn H N b = H b := by unfold wn; rw [if_neg h]
theorem wn_some {H : Hp} {N : Addr → Prop} {b : Addr} {o : HO} (h : wn H N b = some o) : ¬ N b ∧ H b = some o := by
  by_cases q : N b
  · rw [wn_in q] at h; cases h
  · rw [wn_ni q] at h; exact ⟨q, h⟩
theorem wn_ex {H : Hp} {N : Addr → Prop} : Ex (wn H N) H := fun _ _ h => (wn_some h).2
theorem wn_mono {H H' : Hp} {N : Addr → Prop} (e : Ex H H') : Ex (wn H N) (wn H' N) := fun b o h => by
  obtain ⟨q, h1⟩ := wn_some h
  rw [wn_ni q]; exact e b o h1
theorem wn_upd {H : Hp} {N : Addr → Prop} {x : Addr} {o : HO} (hx : N x) : Ex (wn H N) (wn (upd H x o) N) := fun b u h => by
  obtain ⟨q, h1⟩ := wn_some h
  have nb : b ≠ x := fun z => q (by rw [z]; exact hx)
  rw [wn_ni q, upd_ne nb]; exact h1
theorem wn_sub {H : Hp} {N M : Addr → Prop} (h : ∀ b, N b → M b) : Ex (wn H M) (wn H N) := fun b o q => by
  obtain ⟨q1, h1⟩ := wn_some q
  rw [wn_ni fun z => q1 (h b z)]; exact h1
theorem wn_t {K : PySem.W.Frag} {H : Hp} {N : Addr → Prop} {a : Addr} {xs : List V} (ha : ¬ N a) (h : SqT K H a xs) : SqT K (wn H N) a xs := by
  rcases h with (h | ⟨u, h⟩) | h
  · exact .inl (.inl (by rw [wn_ni ha]; exact h))
  · exact .inl (.inr ⟨u, by rw [wn_ni ha]; exact h⟩)
  · exact .inr h
def nx (x : Addr) (N : Addr → Prop) : Addr → Prop := fun b => b = x ∨ N b
theorem wn_tx {K : PySem.W.Frag} {H : Hp} {N : Addr → Prop} {x a C dx : Addr} {fs : List (Str × V)} {xs : List V} (hx : H x = some (.ins C dx fs)) (h : SqT K (wn H N) a xs) : SqT K (wn H (nx x N)) a xs := by
  have go : ∀ u, wn H N a = some u → (∀ C dx fs, u ≠ .ins C dx fs) → wn H (nx x N) a = some u := fun u hu hne => by
    obtain ⟨q, h1⟩ := wn_some hu
    rw [wn_ni]
    · exact h1
    · rintro (e | e)
      · rw [e, hx] at h1; exact hne _ _ _ (Option.some.inj h1).symm
      · exact q e
  rcases h with (h | ⟨u, h⟩) | h
  · exact .inl (.inl (go _ h (fun _ _ _ q => nomatch q)))
  · exact .inl (.inr ⟨u, go _ h (fun _ _ _ q => nomatch q)⟩)
  · exact .inr h
end Sw
namespace Sw
open PySem PySem.Spec PyProof.Rows L2 Evl LamX NdefX
/-! ### lambdas that capture names: their objects -/
structure LF where
  qual : Str
  params : Arguments
  body : Expr
  scope : Scope
  cl : List (Str × Addr)
  c : Addr
  dv : Value
abbrev LF.fd (F : LF) (pm ctv : Value) : FuncData := { PySem.W.kla_fn "<lambda>" F.qual F.params F.body F.scope F.cl pm (.ref F.c) ctv with defaults := F.dv }
abbrev LF.nf (F : LF) : NF := ⟨"<lambda>", F.qual, F.params, [], F.scope, F.cl, F.c⟩
def LamO (f : Addr) (F : LF) : HO := .ext fun h => ∃ (od : Option Addr) (sl : Array (Option Value)) (pm ctv : Value), h.get? f = some (⟨.type "function", od, .func (F.fd pm ctv), sl⟩ : Obj)
theorem lamO_at {P : Program} {w : World} {H : Hp} {h : Heap} {f : Addr} {F : LF} (hok : HOk P w H h) (e : H f = some (LamO f F)) : ∃ (od : Option Addr) (sl : Array (Option Value)) (pm ctv : Value), h.get? f = some (⟨.type "function", od, .func (F.fd pm ctv), sl⟩ : Obj) := (hok f _ e).1
theorem lamO_tbl {f : Addr} {F : LF} (ps : Array Value) : LamO f F ≠ .tbl ps := fun z => by unfold LamO at z; cases z
/-! ### the end of a function's making, whatever its defaults -/
section
variable {M : Model} {A : Around} {E Q : Value → Shared → Prop} {s : Shared} {nm ql : Str} {pr : Arguments} {bd : Expr} {sc : Scope} {en : Env} {cc TP : Addr} {ts : Array Value} {po : Pos} {ln : Nat} {mg : Str → Option Value} {cl : List (Str × Addr)} {dv : Value}
abbrev fnDv (ql : Str) (pr : Arguments) (bd : Expr) (sc : Scope) (cl : List (Str × Addr)) (nm : Str) (pm c ct dv : Value) : FuncData := { PySem.W.kla_fn nm ql pr bd sc cl pm c ct with defaults := dv }
theorem tail_hit {cv : Value} (a1 : closureFor sc en = pure cl) (a2 : en.globals = mainGlobals) (a3 : s.heap.Ns mainGlobals mg) (a4 : en.code = .ref cc) (a5 : PySem.W.CodeHd s.heap cc TP) (a6 : s.heap.get? TP = some (PySem.W.tabObj ts)) (a7 : TriplesOk ts.toList) (a8 : codeAmong po ts.toList = some cv) (a9 : s.heap.BuiltinsAt mg TP)
    (k : ∀ (ct : Value) (g : Heap) (n : Tok), (∀ b o, s.heap.get? b = some o → g.get? b = some o) → s.heap.objs.size ≤ g.objs.size → Q (.ref g.objs.size) { s with heap := g.push { cls := .type "function", data := .func (fnDv ql pr bd sc cl nm ((mg "__name__").getD .none) cv ct dv) }, toks := n }) :
    wpAny M A (makeTail nm ql pr (.expr bd) sc en dv .none none po ln) Q E s := by
  obtain ⟨u1, u2, e1, e2, e3, e4, e5, e6, e7, e8⟩ := a9
  unfold makeTail; rw [a1, a2]; apply wpAny_bind; apply wpAny_pure
  rcases cl with _ | ⟨q, r⟩
  · rw [if_pos (List.isEmpty_nil)]
    apply wpAny_bind; apply wpAny_pure
    exact wpAny_bind (wpAny_functionCode_hit a4 (a5.code a6 a7) a8 (wpAny_bind (wpAny_builtinsFor a3 e1 e2 e5 e6 e7 e8 (wpAny_bind (wpAny_nsGet a3 (wpAny_bind (wpAny_pure (wpAny_newObj_type (k .none s.heap s.toks (fun _ _ e => e) (Nat.le_refl _)) (by size_fits)))))))))
  · rw [if_neg (by simp)]
    refine wpAny_bind (wpAny_newTextTuple ?_)
    exact wpAny_bind (wpAny_functionCode_hit a4 ((a5.keeps fun b o e => Heap.get?_push_of_some _ e).code (Heap.get?_push_of_some _ a6) a7) a8 (wpAny_bind (wpAny_builtinsFor (a3.push _) e1 e2 (Heap.get?_push_of_some _ e5) e6 e7 e8 (wpAny_bind (wpAny_nsGet (a3.push _)
      (wpAny_bind (wpAny_pure (wpAny_newObj_type (k _ _ s.toks (fun b o e => Heap.get?_push_of_some _ e) (by rw [Heap.size_push]; omega)) (by size_fits)))))))))
theorem tail_new (a1 : closureFor sc en = pure cl) (a2 : en.globals = mainGlobals) (a3 : s.heap.Ns mainGlobals mg) (a4 : en.code = .ref cc) (a5 : PySem.W.CodeHd s.heap cc TP) (a6 : s.heap.get? TP = some (PySem.W.tabObj ts)) (a7 : TriplesOk ts.toList) (a8 : codeAmong po ts.toList = none) (a0 : mainGlobals ≠ TP) (a9 : s.heap.BuiltinsAt mg TP)
    (k : ∀ c' ct g n, Heap.ExtBut TP s.heap g → s.heap.objs.size ≤ c' → c' < g.objs.size → g.CodeRec (.ref c') ql → g.get? TP = some (PySem.W.tabObj (ts ++ #[rawInt po.line, rawInt po.col, .ref c'])) → Q (.ref g.objs.size) { s with heap := g.push { cls := .type "function", data := .func (fnDv ql pr bd sc cl nm ((mg "__name__").getD .none) (.ref c') ct dv) }, toks := n }) :
    wpAny M A (makeTail nm ql pr (.expr bd) sc en dv .none none po ln) Q E s := by
  obtain ⟨u1, u2, e1, e2, e3, e4, e5, e6, e7, e8⟩ := a9
  unfold makeTail; rw [a1, a2]; apply wpAny_bind; apply wpAny_pure
  rcases cl with _ | ⟨q, r⟩
  · rw [if_pos (List.isEmpty_nil)]
    apply wpAny_bind; apply wpAny_pure
    refine wpAny_bind (wpAny_functionCodeX a4 (a5.code a6 a7) (a5.tab a6) a8 fun c' g n x1 x2 x3 _ x4 x5 _ => ?_)
    have a3' := a3.extBut x1 a0
    exact wpAny_bind (wpAny_builtinsFor a3' e1 e2 (x1 _ _ e4 e5) e6 e7 e8 (wpAny_bind (wpAny_nsGet a3' (wpAny_bind (wpAny_pure (wpAny_newObj_type (k c' .none g n x1 x2 x3 x4 x5.2) (by size_fits)))))))
  · rw [if_neg (by simp)]
    refine wpAny_bind (wpAny_newTextTuple ?_)
    have kp := a5.keeps fun b o e => Heap.get?_push_of_some { cls := .type "tuple", data := .seq (((q :: r).mergeSort fun a b => a.1.cps.toList ≤ b.1.cps.toList).map (Value.ref ·.2)).toArray } e
    refine wpAny_bind (wpAny_functionCodeX a4 (kp.code (Heap.get?_push_of_some _ a6) a7) (kp.tab (Heap.get?_push_of_some _ a6)) a8 fun c' g n x1 x2 x3 _ x4 x5 _ => ?_)
    have a3' := (a3.push _).extBut x1 a0
    have x1' : Heap.ExtBut TP s.heap g := fun b o hb e => x1 b o hb (Heap.get?_push_of_some _ e)
    have x2' : s.heap.objs.size ≤ c' := Nat.le_trans (by rw [Heap.size_push]; omega) x2
    exact wpAny_bind (wpAny_builtinsFor a3' e1 e2 (x1' _ _ e4 e5) e6 e7 e8 (wpAny_bind (wpAny_nsGet a3' (wpAny_bind (wpAny_pure (wpAny_newObj_type (k c' _ g n x1' x2' x3 x4 x5.2) (by size_fits)))))))
end
section
variable {X : Cx} {pins : List (Addr × Obj)} {σ : L2.St} {H : Hp} {s : Shared}
theorem inv_lam {F : LF} {o : Obj} {t' : Nat} {pm ctv : Value} (I : Inv X pins σ H s) (ho : o = { cls := .type "function", data := .func (F.fd pm ctv) }) : Inv X pins σ (upd H s.heap.objs.size (LamO s.heap.objs.size F)) { s with heap := s.heap.push o, toks := t' } := by
  subst ho
  refine I.laid (fun b u e => Heap.get?_push_of_some _ e) (Nat.le_refl _) ?_
  have g : (s.heap.push ({ cls := .type "function", data := .func (F.fd pm ctv) } : Obj)).get? s.heap.objs.size = some { cls := .type "function", data := .func (F.fd pm ctv) } := Heap.get?_push_size _ rfl
  exact ⟨⟨_, _, pm, ctv, g⟩, ⟨_, g⟩, fun _ _ ⟨od, sl, p, t, z⟩ st => ⟨od, sl, p, t, st _ z⟩⟩
/-- a lambda is made; its object and its code object are known from then on -/
theorem lam_tail {T : List NTab} {nm : Nat → Nat → Str} {c P : Addr} {params : Arguments} {body : Expr} {scope : Scope} {pos : Pos} {dv : Value} {E Q : Value → Shared → Prop} (I : Inv X pins σ H s) (TB : TabB X.base X.mg c P) (hcode : X.env.code = .ref c) (hm : (P, nm) ∈ T)
    (hn : nm pos.line pos.col = X.env.qual ++ "<lambda>") (hu : ∀ p ∈ T, p.1 = P → p.2 = nm) (hT : TabsN T H) (hfree : ∀ y ∈ scope.names, y.2 = .free → ∃ c, X.env.cells.lookup y.1 = some c)
    (fin : ∀ (f c' : Addr) (H1 : Hp) (s' : Shared), Inv X pins σ H1 s' → ExtN H H1 → (∀ b, H1 b = Option.none → H b = Option.none) → TabsN T H1 → H f = none → H1 f = some (LamO f ⟨X.env.qual ++ "<lambda>", params, body, scope, cloFrom X.env.cells scope.names [], c', dv⟩) → H1 c' = some (CodeO c' (X.env.qual ++ "<lambda>")) → Q (.ref f) s') :
    wpAny (model X.prog X.w) X.A (makeTail "<lambda>" (X.env.qual ++ "<lambda>") params (.expr body) scope X.env dv .none none pos pos.line) Q E s := by
  obtain ⟨ps, hP, ht, ha⟩ := (show TabN H P nm from hT _ hm)
  have bP : s.heap.BuiltinsAt X.mg P := TB.bm.keeps I.bk
  have gP : s.heap.get? P = some { cls := .none, data := .fields ps } := I.hok P _ hP
  cases hc : codeAmong pos ps.toList with
  | some cv =>
    obtain ⟨c', ecv, hco⟩ := ha pos cv hc
    subst ecv; rw [hn] at hco
    refine tail_hit (mg := X.mg) (closure_ok hfree) I.ok.glob (I.mod.glob.keeps I.bk) hcode (TB.code.keeps I.bk) gP ht hc bP fun ctv h' tk hx hsz => ?_
    have I1 : Inv X pins σ H { s with heap := h', toks := tk } := I.kept hx
    have nF : H h'.objs.size = none := I1.hok.fresh (Nat.le_refl _)
    have I2 := inv_lam (F := ⟨X.env.qual ++ "<lambda>", params, body, scope, cloFrom X.env.cells scope.names [], c', dv⟩) (t' := tk) (pm := (X.mg "__name__").getD .none) (ctv := ctv) I1 rfl
    have k1 : ∀ b o, H b = some o → upd H h'.objs.size (LamO h'.objs.size ⟨X.env.qual ++ "<lambda>", params, body, scope, cloFrom X.env.cells scope.names [], c', dv⟩) b = some o := fun b o e => (upd_ne (ne_of_none e nF)).trans e
    exact fin h'.objs.size c' _ _ I2 (fun b o e _ => k1 b o e) (fun b e => upd_none e) (hT.ext k1) nF upd_same (k1 _ _ hco)
  | none =>
    refine tail_new (mg := X.mg) (closure_ok hfree) I.ok.glob (I.mod.glob.keeps I.bk) hcode (TB.code.keeps I.bk) gP ht hc TB.gP bP fun c' ctv h' tk hx hge hlt hrec htb => ?_
    obtain ⟨c2, oc, vs, t, e2, hoc, hd, hv⟩ := hrec
    cases e2
    have nC : H c' = none := I.hok.fresh hge
    have I1 := inv_table (t' := tk) (more := #[rawInt pos.line, rawInt pos.col, .ref c']) (h' := h') I hP (fun b o hb e => hx b o hb e) htb hge ⟨oc, vs, t, hoc, hd, hv⟩
    have kE : ExtN H (upd (upd H P (.tbl (ps ++ #[rawInt pos.line, rawInt pos.col, .ref c']))) c' (CodeO c' (X.env.qual ++ "<lambda>"))) := fun b o e n => by
      rw [upd_ne (ne_of_none e nC), upd_ne (fun z => n ps (Option.some.inj (e.symm.trans (by rw [z]; exact hP))))]; exact e
    have aL : (ps ++ #[rawInt pos.line, rawInt pos.col, .ref c']).toList = ps.toList ++ [rawInt pos.line, rawInt pos.col, .ref c'] := by simp
    have T1 : TabsN T (upd (upd H P (.tbl (ps ++ #[rawInt pos.line, rawInt pos.col, .ref c']))) c' (CodeO c' (X.env.qual ++ "<lambda>"))) := fun p hp => by
      by_cases hb : p.1 = P
      · rw [hu p hp hb, hb]
        refine ⟨_, (upd_ne (ne_of_none hP nC)).trans upd_same, by rw [aL]; exact PySem.TriplesOk_snoc _ _ _ _ ht, fun p' cv hcv => ?_⟩
        rw [aL] at hcv
        rcases among_app2 _ ht hcv with z | ⟨z, z1, z2⟩
        · obtain ⟨c0, g1, g2⟩ := ha p' cv z; exact ⟨c0, g1, kE _ _ g2 codeO_ne⟩
        · exact ⟨c', z, by rw [← z1, ← z2, hn]; exact upd_same⟩
      · obtain ⟨ps', a1, a2, a3⟩ := hT p hp
        refine ⟨ps', by rw [upd_ne (ne_of_none a1 nC), upd_ne hb]; exact a1, a2, fun p' cv hcv => ?_⟩
        obtain ⟨c0, g1, g2⟩ := a3 p' cv hcv; exact ⟨c0, g1, kE _ _ g2 codeO_ne⟩
    have nF := I1.hok.fresh (Nat.le_refl _)
    have I2 := inv_lam (F := ⟨X.env.qual ++ "<lambda>", params, body, scope, cloFrom X.env.cells scope.names [], c', dv⟩) (t' := tk) (pm := (X.mg "__name__").getD .none) (ctv := ctv) I1 rfl
    exact fin h'.objs.size c' _ _ I2 (fun b o e n => (upd_ne (ne_of_none (kE b o e n) nF)).trans (kE b o e n)) (fun b e => upd_none (upd_none (upd_none e))) (T1.ext fun b o e => (upd_ne (ne_of_none e nF)).trans e)
      (I.hok.fresh (Nat.le_trans hge (Nat.le_of_lt hlt))) upd_same ((upd_ne (Nat.ne_of_lt hlt)).trans upd_same)
theorem lam_new {T : List NTab} {nm : Nat → Nat → Str} {c P : Addr} {params : Arguments} {body : Expr} {scope : Scope} {pos : Pos} {E Q : Value → Shared → Prop} (I : Inv X pins σ H s) (TB : TabB X.base X.mg c P) (hcode : X.env.code = .ref c) (hm : (P, nm) ∈ T)
    (hn : nm pos.line pos.col = X.env.qual ++ "<lambda>") (hu : ∀ p ∈ T, p.1 = P → p.2 = nm) (hT : TabsN T H) (hdef : defaultsOf params X.env = ([], [])) (hfree : ∀ y ∈ scope.names, y.2 = .free → ∃ c, X.env.cells.lookup y.1 = some c)
    (fin : ∀ (f c' : Addr) (H1 : Hp) (s' : Shared), Inv X pins σ H1 s' → ExtN H H1 → (∀ b, H1 b = Option.none → H b = Option.none) → TabsN T H1 → H f = none → H1 f = some (LamO f ⟨X.env.qual ++ "<lambda>", params, body, scope, cloFrom X.env.cells scope.names [], c', .none⟩) → H1 c' = some (CodeO c' (X.env.qual ++ "<lambda>")) → Q (.ref f) s') :
    wpAny (model X.prog X.w) X.A (eval (.Lambda params body scope pos) X.env) Q E s := by
  refine PySem.W.kla_eval hdef ?_
  rw [makeFunction_eq]
  simp only [List.zip_nil_right, List.filterMap_nil, List.isEmpty_nil, if_true, pure_bind]
  exact lam_tail I TB hcode hm hn hu hT hfree fin
end
/-- the reading of a lambda: a new function, its code known -/
def tLamE (T : List NTab) (mk : Addr → LF) : TE := fun σ H Q => TabsN T H ∧ ∀ (f c' : Addr) (H1 : Hp), ExtN H H1 → (∀ b, H1 b = Option.none → H b = Option.none) → TabsN T H1 → H f = none → H1 f = some (LamO f (mk c')) → H1 c' = some (CodeO c' (mk c').qual) → Q (.ref f) H1
theorem pe_lamE {X : Cx} {T : List NTab} {nm : Nat → Nat → Str} {c P : Addr} {params : Arguments} {body : Expr} {scope : Scope} {pos : Pos} (TB : TabB X.base X.mg c P) (hcode : X.env.code = .ref c) (hm : (P, nm) ∈ T) (hn : nm pos.line pos.col = X.env.qual ++ "<lambda>") (hu : ∀ p ∈ T, p.1 = P → p.2 = nm) (hdef : defaultsOf params X.env = ([], []))
    (hfree : ∀ y ∈ scope.names, y.2 = .free → X.env.scope.names.lookup y.1 = some .cell ∨ X.env.scope.names.lookup y.1 = some .free) : PE X (.Lambda params body scope pos) (tLamE T fun c' => ⟨X.env.qual ++ "<lambda>", params, body, scope, cloFrom X.env.cells scope.names [], c', .none⟩) := by
  refine ⟨fun pins s σ H Q I ⟨hT, h⟩ => ?_⟩
  exact lam_new I TB hcode hm hn hu hT hdef (fun y hy e => (hfree y hy e).elim (fun z => I.ok.has _ (.inl z)) fun z => I.ok.has _ (.inr z)) fun f c' H1 s' I1 e1 e2 e3 e4 e5 e6 => ⟨.ref f, H1, I1, rfl, h f c' H1 e1 e2 e3 e4 e5 e6⟩
/-! ### what may be called: a promise that goes with an address -/
/-- called in any state that has all of S, the function at f keeps the promise sp -/
def Cal (P : Program) (w : World) (K : PySem.W.Frag) (mg : Str → Option Value) (base : Heap) (CX : CXT) (k : Nat) (f : Addr) (sp : Sp) (S : Hp) : Prop :=
  (∃ F, S f = some (LamO f F)) ∧ ∀ (A : Around) (outer : List Env) (s : Shared) (H : Hp) (us : List Value) (vs : List V) (Q : VK) (E : XK), Ex S H → Room k A → Env0 P w K mg base A outer s H → Vals vs us → sp vs H Q E →
    codeAny (model P w) A (.call (.ref f) ⟨us, []⟩) (CR CX outer P w H s Q E) s
theorem Cal.mono {P : Program} {w : World} {K : PySem.W.Frag} {mg : Str → Option Value} {base : Heap} {CX : CXT} {k : Nat} {f : Addr} {sp : Sp} {S S' : Hp} (h : Cal P w K mg base CX k f sp S) (e : Ex S S') : Cal P w K mg base CX k f sp S' :=
  ⟨let ⟨F, z⟩ := h.1; ⟨F, e _ _ z⟩, fun A outer s H us vs Q E e2 => h.2 A outer s H us vs Q E (e.trans e2)⟩
def tCal (P : Program) (w : World) (K : PySem.W.Frag) (mg : Str → Option Value) (base : Heap) (CX : CXT) (k i : Nat) (E : XK) (t : TA) : TE := fun σ H Q => ∃ f sp S, σ[i]? = some (some (.ref f)) ∧ Cal P w K mg base CX k f sp S ∧ Ex S H ∧ t σ H fun vs H1 => Ex S H1 ∧ sp vs H1 Q E
section
variable {X : Cx} {CX : CXT} {i j k : Nat} {x : Str} {E : XK} {t : TA} {e : Expr} {es : List Expr} {p pos : Pos}
theorem lam_fnAt {pins : List (Addr × Obj)} {σ : L2.St} {H S : Hp} {s : Shared} {f : Addr} {sp : Sp} (I : Inv X pins σ H s) (C : Cal X.prog X.w X.K X.mg X.base CX k f sp S) (e : Ex S H) : PySem.W.FnAt f s.heap := by
  obtain ⟨F, z⟩ := C.1
  obtain ⟨od, sl, pm, ctv, ho⟩ := lamO_at I.hok (e _ _ z)
  exact ⟨_, od, _, sl, ho⟩
theorem run_cal {pins : List (Addr × Obj)} {σ : L2.St} {H S : Hp} {s : Shared} {f : Addr} {sp : Sp} {us : List Value} {vs : List V} {Q : VK} (I : Inv X pins σ H s) (C : Cal X.prog X.w X.K X.mg X.base CX k f sp S) (hr : Room k X.A) (hx : Passes CX X E) (eS : Ex S H) (r : Vals vs us) (q : sp vs H Q E) :
    wpAny (model X.prog X.w) X.A (call (.ref f) us) (EP X pins σ Q) X.xe s := by
  refine wpAny_call (codeAny_mono (C.2 X.A X.stack s H us vs Q E eS hr I.env0 r q) fun r s' hq => ?_)
  match r, hq with
  | .error e, hq => exact hx pins σ H s e s' I hq
  | .ok (.ret u), hq => exact I.after hq
  | .ok .next, hq => exact False.elim hq
  | .ok .brk, hq => exact False.elim hq
  | .ok .cont, hq => exact False.elim hq
theorem pe_cal (hr : Room j X.A) (hk : k ≤ j) (hx : Passes CX X E) (hN : X.N[i]? = some x) (hv : Vis X.env.scope x) (ha : PA X (e :: es) t) (hd : (x == ("__debug__" : Str)) = false := by decide) (hcd : (x == ("__classdict__" : Str)) = false := by decide)
    (he : starEach (e :: es) X.env = (false, eval e X.env) :: starEach es X.env := by rfl) (hpl : (backTo pos (starEach es X.env)).any (·.1) = false := by rfl) : PE X (.Call (.Name x p) (e :: es) [] pos) (tCal X.prog X.w X.K X.mg X.base CX k i E t) := by
  refine ⟨fun pins s σ H Q I ⟨f, sp, S, hs, C, eS, ht⟩ => ?_⟩
  refine wpAny_Call_Name_kw (thn ((pe_var (pos := p) hN hv hd hcd).run pins s σ H (fun v H1 => v = .ref f ∧ H1 = H) I ⟨.ref f, hs, rfl, rfl⟩) fun u s1 ⟨v, H1, I1, r1, ev, eH⟩ => ?_)
  subst ev eH
  obtain rfl : u = Value.ref f := r1
  exact PySem.W.callWith_F (first := []) (lam_fnAt I1 C eS) (thn (ha.run pos pins s1 σ H1 _ I1 ht) fun us s2 ⟨vs, H2, I2, r, e2, q⟩ => ⟨lam_fnAt I2 C e2, run_cal I2 C (hr.mono hk) hx e2 r q⟩) he hpl
theorem pe_cal0 (hr : Room j X.A) (hk : k ≤ j) (hx : Passes CX X E) (hN : X.N[i]? = some x) (hv : Vis X.env.scope x) (hd : (x == ("__debug__" : Str)) = false := by decide) (hcd : (x == ("__classdict__" : Str)) = false := by decide) :
    PE X (.Call (.Name x p) [] [] pos) (tCal X.prog X.w X.K X.mg X.base CX k i E tNil) := by
  refine ⟨fun pins s σ H Q I ⟨f, sp, S, hs, C, eS, e2, q⟩ => ?_⟩
  refine wpAny_Call_Name_kw (thn ((pe_var (pos := p) hN hv hd hcd).run pins s σ H (fun v H1 => v = .ref f ∧ H1 = H) I ⟨.ref f, hs, rfl, rfl⟩) fun u s1 ⟨v, H1, I1, r1, ev, eH⟩ => ?_)
  subst ev eH
  obtain rfl : u = Value.ref f := r1
  exact PySem.W.callWith_F0 (first := []) (lam_fnAt I1 C eS) (run_cal I1 C (hr.mono hk) hx e2 .nil q)
theorem pe_calE (P : Program) (w : World) (K : PySem.W.Frag) (mg : Str → Option Value) (base : Heap) (h1 : X.prog = P) (h2 : X.w = w) (h3 : X.K = K) (h4 : X.mg = mg) (h5 : X.base = base) (hr : Room j X.A) (hk : k ≤ j) (hx : Passes CX X E) (hN : X.N[i]? = some x) (hv : Vis X.env.scope x) (ha : PA X (e :: es) t)
    (hd : (x == ("__debug__" : Str)) = false := by decide) (hcd : (x == ("__classdict__" : Str)) = false := by decide) (he : starEach (e :: es) X.env = (false, eval e X.env) :: starEach es X.env := by rfl) (hpl : (backTo pos (starEach es X.env)).any (·.1) = false := by rfl) :
    PE X (.Call (.Name x p) (e :: es) [] pos) (tCal P w K mg base CX k i E t) := by
  subst h1 h2 h3 h4 h5
  exact pe_cal hr hk hx hN hv ha hd hcd he hpl
theorem pe_cal0E (P : Program) (w : World) (K : PySem.W.Frag) (mg : Str → Option Value) (base : Heap) (h1 : X.prog = P) (h2 : X.w = w) (h3 : X.K = K) (h4 : X.mg = mg) (h5 : X.base = base) (hr : Room j X.A) (hk : k ≤ j) (hx : Passes CX X E) (hN : X.N[i]? = some x) (hv : Vis X.env.scope x)
    (hd : (x == ("__debug__" : Str)) = false := by decide) (hcd : (x == ("__classdict__" : Str)) = false := by decide) : PE X (.Call (.Name x p) [] [] pos) (tCal P w K mg base CX k i E tNil) := by
  subst h1 h2 h3 h4 h5
  exact pe_cal0 hr hk hx hN hv hd hcd
end
end Sw
namespace Sw
open PySem PySem.Spec PyProof.Rows L2 Evl LamX NdefX
/-! ### cells that are known for a while: frozen for a callee -/
abbrev okT : HO := .ext fun _ => True
/-- of H, what N names is as H0 has it -/
noncomputable def mixN (N : Addr → Prop) (H0 H : Hp) : Hp := fun b => @ite _ (N b) (Classical.propDecidable _) (H0 b) (H b)
theorem mix_in {N : Addr → Prop} {H0 H : Hp} {b : Addr} (h : N b) : mixN N H0 H b = H0 b := by unfold mixN; rw [if_pos h]
theorem mix_ni {N : Addr → Prop} {H0 H : Hp} {b : Addr} (h : ¬ N b) : mixN N H0 H b = H b := by unfold mixN; rw [if_neg h]
structure Frz (X : Cx) (σ : L2.St) (H Hz : Hp) (N : Addr → Prop) : Prop where
  iff : ∀ b, N b ↔ ∃ y, X.env.cells.lookup y = some b
  out : ∀ b, ¬ N b → Hz b = H b
  off : ∀ b, N b → H b = Option.none
  inn : ∀ b, N b → ∃ o v, Hz b = some (.frz o okT) ∧ o.data = .cell v
  val : ∀ (i : Nat) (y : Str) (v : V) (c : Addr), X.N[i]? = some y → σ[i]? = some (some v) → (X.env.scope.names.lookup y = some .cell ∨ X.env.scope.names.lookup y = some .free) → X.env.cells.lookup y = some c → ∃ o u, Hz c = some (.frz o okT) ∧ o.data = .cell (some u) ∧ L2.RelV v u
  inj : ∀ x y c, X.env.cells.lookup x = some c → X.env.cells.lookup y = some c → x = y
  has : ∀ y, (X.env.scope.names.lookup y = some .cell ∨ X.env.scope.names.lookup y = some .free) → ∃ c, X.env.cells.lookup y = some c
theorem okT_ok {P : Program} {w : World} {H : Hp} {h : Heap} {a : Addr} {o : Obj} (e : h.get? a = some o) : ObjOk P w H h a (.frz o okT) := ⟨e, trivial, ⟨o, e⟩, fun _ _ _ _ => trivial⟩
/-- what is frozen, and how it comes back -/
theorem Frz.ex_ {X : Cx} {σ : L2.St} {H Hz : Hp} {N : Addr → Prop} (z : Frz X σ H Hz N) : Ex H Hz := fun b o e => by
  rw [z.out b (fun n => by rw [z.off b n] at e; cases e)]; exact e
theorem frz_env {X : Cx} {pins : List (Addr × Obj)} {σ : L2.St} {H : Hp} {s : Shared} (I : Inv X pins σ H s) (hfn : ∀ y, X.fn y = true) : ∃ Hz N, Frz X σ H Hz N ∧ Env0 X.prog X.w X.K X.mg X.base X.A X.stack s Hz ∧
    ∀ (Q : VK) (u : Value) (s' : Shared), CE X.stack X.prog X.w Hz s (fun v H2 => Q v (wn H2 N)) u s' → CE X.stack X.prog X.w H s Q u s' := by
  have cellOf : ∀ b, (∃ y, X.env.cells.lookup y = some b) → ∃ o v, s.heap.get? b = some o ∧ o.data = .cell v := fun b ⟨y, e⟩ => let ⟨v, o, h1, h2⟩ := I.cell y b e; ⟨o, v, h1, h2⟩
  let fz : Hp := fun b => (s.heap.get? b).map fun o => .frz o okT
  refine ⟨mixN (fun b => ∃ y, X.env.cells.lookup y = some b) fz H, fun b => ∃ y, X.env.cells.lookup y = some b, ?_, ?_, ?_⟩
  · refine ⟨fun b => Iff.rfl, fun b n => mix_ni n, fun b ⟨y, e⟩ => I.freeC y b e, fun b n => ?_, fun i y v c h1 h2 h3 h4 => ?_, I.ok.inj, I.ok.has⟩
    · obtain ⟨o, v, e1, e2⟩ := cellOf b n
      exact ⟨o, v, by rw [mix_in n]; show (s.heap.get? b).map _ = _; rw [e1]; rfl, e2⟩
    · obtain ⟨m, hn, hl⟩ := I.loc
      obtain ⟨u, r, l⟩ := hl i y v h1 h2 (h3.elim (fun z => .inr (.inl z)) fun z => .inr (.inr z))
      rcases l with ⟨z, _⟩ | ⟨_, a, ha, o, ho, hd⟩
      · have z' : X.env.scope.names.lookup y = some .local := z
        rcases h3 with k | k <;> rw [k] at z' <;> cases z'
      · rw [h4] at ha; cases ha
        exact ⟨o, u, by rw [mix_in ⟨y, h4⟩]; show (s.heap.get? c).map _ = _; rw [ho]; rfl, hd, r⟩
  · have e0 := I.env0
    have big : ∀ b, (∃ y, X.env.cells.lookup y = some b) → X.s_0.heap.objs.size ≤ b := fun b ⟨y, e⟩ => I.ok.cab y b (hfn y) e
    refine ⟨e0.frames, e0.mod, fun b o e => ⟨(e0.bs b o e).1, ?_⟩, e0.bsz, e0.funs, fun b hb => ?_, fun a o e => ?_, e0.bare⟩
    · rw [mix_ni fun n => absurd (Nat.lt_of_lt_of_le (Heap.lt_size (I.ok.bs b o e).1) (big b n)) (Nat.lt_irrefl _)]
      exact (e0.bs b o e).2
    · rw [mix_ni]
      · exact e0.frf b hb
      · intro n
        rcases List.mem_cons.mp (I.stkSub b hb) with z | z
        · obtain ⟨y, e⟩ := n
          exact I.cne y b e z
        · obtain ⟨_, o, ho, _⟩ := I.ok.funs.mem z
          exact absurd (Nat.lt_of_lt_of_le (Heap.lt_size ho) (big b n)) (Nat.lt_irrefl _)
    · by_cases n : ∃ y, X.env.cells.lookup y = some a
      · rw [mix_in n] at e
        obtain ⟨o', v, e1, e2⟩ := cellOf a n
        have e3 : (s.heap.get? a).map (fun o => HO.frz o okT) = some o := e
        rw [e1] at e3; cases e3
        exact okT_ok e1
      · rw [mix_ni n] at e
        refine (e0.hok a o e).stay (fun b u _ q => q) (fun b q => ?_) fun b xs q => ?_
        · rw [mix_ni fun ⟨y, z⟩ => by rw [I.freeC y b z] at q; cases q]; exact q
        · rw [mix_ni fun ⟨y, z⟩ => by rw [I.freeC y b z] at q; cases q]; exact q
  · rintro Q u s' ⟨v, H2, os, bare, un, hok, r, q⟩
    have fr : ∀ b, (∃ y, X.env.cells.lookup y = some b) → ∀ o, s.heap.get? b = some o → H2 b = some (.frz o okT) ∧ s'.heap.get? b = some o := fun b n o e => by
      have z := un.frzs b o okT (by rw [mix_in n]; show (s.heap.get? b).map _ = _; rw [e]; rfl)
      exact ⟨z, (hok b _ z).1⟩
    have mz : ∀ {b : Addr}, (¬ ∃ y, X.env.cells.lookup y = some b) → H b = Option.none → mixN (fun b => ∃ y, X.env.cells.lookup y = some b) fz H b = Option.none := fun n e => (mix_ni n).trans e
    refine ⟨v, wn H2 _, os, bare, ⟨fun b o e n h1 h2 => ?_, fun b o e n h1 h2 => ?_, fun b o e n h2 => ?_, un.there, fun b xs e => ?_, fun b o u e => ?_, fun b ps e => ?_⟩, fun a o e => ?_, r, q⟩
    · by_cases c : ∃ y, X.env.cells.lookup y = some b
      · exact (fr b c o e).2
      · exact un.keep b o e (mz c n) h1 h2
    · by_cases c : ∃ y, X.env.cells.lookup y = some b
      · exact ⟨o.slots, (fr b c o e).2⟩
      · exact un.slot b o e (mz c n) h1 h2
    · by_cases c : ∃ y, X.env.cells.lookup y = some b
      · exact wn_in c
      · rw [wn_ni c]; exact un.free b o e (mz c n) h2
    · have c : ¬ ∃ y, X.env.cells.lookup y = some b := fun ⟨y, z⟩ => by rw [I.freeC y b z] at e; cases e
      rw [wn_ni c]; exact un.tups b xs ((mix_ni c).trans e)
    · have c : ¬ ∃ y, X.env.cells.lookup y = some b := fun ⟨y, z⟩ => by rw [I.freeC y b z] at e; cases e
      rw [wn_ni c]; exact un.frzs b o u ((mix_ni c).trans e)
    · have c : ¬ ∃ y, X.env.cells.lookup y = some b := fun ⟨y, z⟩ => by rw [I.freeC y b z] at e; cases e
      obtain ⟨more, z⟩ := un.tbls b ps ((mix_ni c).trans e)
      exact ⟨more, by rw [wn_ni c]; exact z⟩
    · obtain ⟨c, e'⟩ := wn_some e
      have nc : ∀ {b : Addr} {o : HO}, H2 b = some o → (∀ ob, o ≠ .frz ob okT) → ¬ ∃ y, X.env.cells.lookup y = some b := fun {b o} q ne n => by
        obtain ⟨ob, _, e1, _⟩ := cellOf b n
        rw [(fr b n ob e1).1] at q
        exact ne ob (Option.some.inj q).symm
      refine (hok a o e').stay (fun b u _ q => q) (fun b q => ?_) fun b xs q => ?_
      · rw [wn_ni (nc q fun _ z => nomatch z)]; exact q
      · rw [wn_ni (nc q fun _ z => nomatch z)]; exact q
/-- f(..) of a def that lets nothing out, the caller's cells frozen while it runs -/
def tCallZ (X : Cx) (sp : Sp) (dvs : List V) (t : TA) : TE := fun σ H Q => t σ H fun vs H1 => ∀ Hz N, Frz X σ H1 Hz N → sp (vs ++ dvs) Hz (fun v H2 => Q v (wn H2 N)) E0
theorem pe_callZ {X : Cx} {k : Nat} {f : Addr} {fd : FuncData} {ps : List Str} {sp : Sp} {dvs : List V} {ds : List Value} {x : Str} {p pos : Pos} {e : Expr} {es : List Expr} {t : TA} (F : FnOk X.prog X.w X.K X.mg X.base L2.CX0 k f fd ps sp) (hr : Room k X.A) (hg : Gl X x) (hm : X.mg x = some (.ref f)) (hk : PySem.W.keepIn X.K (.ref f) = true)
    (hb : L2.Binds X.K fd ps ds) (hd : Vals dvs ds) (ha : PA X (e :: es) t) (hfn : ∀ y, X.fn y = true := by intro _; rfl) (hdb : (x == ("__debug__" : Str)) = false := by decide) (he : starEach (e :: es) X.env = (false, eval e X.env) :: starEach es X.env := by rfl) (hpl : (backTo pos (starEach es X.env)).any (·.1) = false := by rfl) :
    PE X (.Call (.Name x p) (e :: es) [] pos) (tCallZ X sp dvs t) := by
  refine ⟨fun pins s σ H Q I h => ?_⟩
  refine wpAny_Call_Name_kw (ld_glob I hg hm (PySem.W.callWith_K (h₀ := X.base) I.ok.mod.kin hk (thn (ha.run pos pins s σ H _ I h) fun us s1 ⟨vs, H1, I1, r, q⟩ => ⟨I1.kIn, ?_⟩) he hpl) hdb)
  obtain ⟨Hz, N, fz, e0, back⟩ := frz_env I1 hfn
  have q := q Hz N fz
  have r2 : Vals (vs ++ dvs) (us ++ ds) := r.append hd
  have hl : (us ++ ds).length = ps.length := by rw [← r2.length]; exact F.len _ _ _ _ q
  refine wpAny_call (codeAny_mono (F.run X.A X.stack s1 Hz ⟨us, []⟩ (us ++ ds) (vs ++ dvs) _ _ hr e0 (hb s1 us I1.kIn hl) r2 q) fun r s' hq => ?_)
  match r, hq with
  | .error e, hq => exact (show False from hq).elim
  | .ok (.ret u), hq => exact I1.after (back Q u s' hq)
  | .ok .next, hq => exact False.elim hq
  | .ok .brk, hq => exact False.elim hq
  | .ok .cont, hq => exact False.elim hq
end Sw
namespace Sw
open PySem PySem.Spec PyProof.Rows L2 Evl LamX NdefX
/-! ### a lambda's promise, from its body -/
structure CloK (S : Hp) (f : Addr) (F : LF) (fr : List Str) (ws : List (Option V)) : Prop where
  fn : S f = some (LamO f F)
  co : S F.c = some (CodeO F.c F.qual)
  len : ws.length = fr.length
  all : ∀ y c, F.cl.lookup y = some c → ∃ o v, S c = some (.frz o okT) ∧ o.data = .cell v
  inj : ∀ x y c, F.cl.lookup x = some c → F.cl.lookup y = some c → x = y
  has : ∀ (i : Nat) (y : Str), fr[i]? = some y → ∃ c, F.cl.lookup y = some c ∧ ∀ v, ws[i]? = some (some v) → ∃ o u, S c = some (.frz o okT) ∧ o.data = .cell (some u) ∧ L2.RelV v u
theorem CloK.mono {S S' : Hp} {f : Addr} {F : LF} {fr : List Str} {ws : List (Option V)} (e : Ex S S') (C : CloK S f F fr ws) : CloK S' f F fr ws :=
  ⟨e _ _ C.fn, e _ _ C.co, C.len, fun y c h => let ⟨o, v, a, b⟩ := C.all y c h; ⟨o, v, e _ _ a, b⟩, C.inj, fun i y h => let ⟨c, a, b⟩ := C.has i y h; ⟨c, a, fun v hv => let ⟨o, u, p, q⟩ := b v hv; ⟨o, u, e _ _ p, q⟩⟩⟩
/-- the cells that a lambda captured -/
def clN (F : LF) : Addr → Prop := fun b => ∃ y, F.cl.lookup y = some b
theorem clo_frz {X : Cx} {σ : L2.St} {H Hz : Hp} {N : Addr → Prop} {f : Addr} {F : LF} {scope : Scope} {fr : List Str} {js : List Nat} (z : Frz X σ H Hz N) (hf : H f = some (LamO f F)) (hc : H F.c = some (CodeO F.c F.qual)) (hcl : F.cl = cloFrom X.env.cells scope.names [])
    (hfree : ∀ y ∈ scope.names, y.2 = .free → X.env.scope.names.lookup y.1 = some .cell ∨ X.env.scope.names.lookup y.1 = some .free) (hfr : ∀ y ∈ fr, (y, NameKind.free) ∈ scope.names) (hjs : js.map (fun j => X.N[j]?) = fr.map some) : CloK Hz f F fr (js.map (slotAt σ)) := by
  have hF : ∀ y ∈ scope.names, y.2 = .free → ∃ c, X.env.cells.lookup y.1 = some c := fun y hy e => z.has y.1 (hfree y hy e)
  have sub : ∀ y c, F.cl.lookup y = some c → X.env.cells.lookup y = some c := fun y c e => clo_cm hF (by rw [hcl] at e; exact e)
  have kn : ∀ {a : Addr} {o : HO}, H a = some o → Hz a = some o := fun {a o} e => z.ex_ a o e
  have ln : js.length = fr.length := by
    have q := congrArg List.length hjs
    rw [List.length_map, List.length_map] at q; exact q
  refine ⟨kn hf, kn hc, by rw [List.length_map]; exact ln, fun y c e => z.inn c ((z.iff c).mpr ⟨y, sub y c e⟩), fun x y c a b => z.inj x y c (sub x c a) (sub y c b), fun i y e => ?_⟩
  have k := hfree (y, .free) (hfr y (List.mem_of_getElem? e)) rfl
  obtain ⟨c, hc0⟩ := z.has y k
  refine ⟨c, by rw [hcl]; exact clo_has hF (hfr y (List.mem_of_getElem? e)) hc0, fun v ev => ?_⟩
  have e2 : (js.map fun j => X.N[j]?)[i]? = some (some y) := by rw [hjs, List.getElem?_map, e]; rfl
  rw [List.getElem?_map] at e2 ev
  cases ej : js[i]? with
  | none => rw [ej] at e2; cases e2
  | some j =>
    rw [ej] at e2 ev
    exact z.val j y v c (Option.some.inj (show some (X.N[j]?) = some (some y) from e2)) (slotAt_some (Option.some.inj (show some (slotAt σ j) = some (some v) from ev))) k hc0
/-- a state in which the cells of Nf are frozen, and the same state without them -/
structure Thaw (H : Hp) (Nf : Addr → Prop) : Prop where
  all : ∀ b, Nf b → ∃ o v, H b = some (.frz o okT) ∧ o.data = .cell v
theorem Thaw.off {H : Hp} {Nf : Addr → Prop} (t : Thaw H Nf) {b : Addr} {o : HO} (e : H b = some o) (n : ∀ ob, o ≠ .frz ob okT) : ¬ Nf b := fun z => let ⟨ob, _, q, _⟩ := t.all b z; n ob (Option.some.inj (e.symm.trans q))
theorem Thaw.offN {H : Hp} {Nf : Addr → Prop} (t : Thaw H Nf) {b : Addr} (e : H b = none) : ¬ Nf b := fun z => let ⟨_, _, q, _⟩ := t.all b z; by rw [e] at q; cases q
section
variable {P : Program} {w : World} {K : PySem.W.Frag} {mg : Str → Option Value} {base : Heap} {A : Around} {outer : List Env} {s : Shared} {H : Hp} {Nf : Addr → Prop}
theorem Thaw.env (t : Thaw H Nf) (e0 : Env0 P w K mg base A outer s H) : Env0 P w K mg base A outer s (wn H Nf) := by
  have off : ∀ {b : Addr}, H b = none → wn H Nf b = none := fun {b} e => (wn_ni (t.offN e)).trans e
  refine ⟨e0.frames, e0.mod, fun b o e => ⟨(e0.bs b o e).1, off (e0.bs b o e).2⟩, e0.bsz, e0.funs, fun b hb => off (e0.frf b hb), fun a o e => ?_, e0.bare⟩
  obtain ⟨_, e'⟩ := wn_some e
  refine (e0.hok a o e').stay (fun b u _ q => q) (fun b q => ?_) fun b xs q => ?_
  · rw [wn_ni (t.off q fun _ z => nomatch z)]; exact q
  · rw [wn_ni (t.off q fun _ z => nomatch z)]; exact q
/-- the heap behind: the frozen cells as they were -/
theorem Thaw.hok {B : Heap} {H3 : Hp} (t : Thaw H Nf) (hf : ∀ b o, H b = some (.frz o okT) → Nf b → B.get? b = some o ∧ H3 b = none) (hok : HOk P w H3 B) : HOk P w (mixN Nf H H3) B := fun a o e => by
  by_cases c : Nf a
  · rw [mix_in c] at e
    obtain ⟨ob, _, q, _⟩ := t.all a c
    rw [q] at e; cases e
    exact okT_ok (hf a ob q c).1
  · rw [mix_ni c] at e
    have nn : ∀ {b : Addr} {o : HO}, H3 b = some o → ¬ Nf b := fun {b o} q z => by
      obtain ⟨ob, _, q2, _⟩ := t.all b z
      rw [(hf b ob q2 z).2] at q; cases q
    refine (hok a o e).stay (fun b u _ q => q) (fun b q => ?_) fun b xs q => ?_
    · rw [mix_ni (nn q)]; exact q
    · rw [mix_ni (nn q)]; exact q
theorem Thaw.back (t : Thaw H Nf) (e0 : Env0 P w K mg base A outer s H) {Q : VK} {u : Value} {s' : Shared} (h : CE outer P w (wn H Nf) s (fun v H3 => (∀ b, Nf b → H3 b = none) → Q v (mixN Nf H H3)) u s') : CE outer P w H s Q u s' := by
  obtain ⟨v, H3, os, bare, un, hok, r, q⟩ := h
  have off : ∀ {b : Addr}, H b = none → wn H Nf b = none := fun {b} e => (wn_ni (t.offN e)).trans e
  have at_ : ∀ b o, H b = some (.frz o okT) → Nf b → s.heap.get? b = some o := fun b o e _ => (e0.hok b _ e).1
  have nfr : ∀ b, Nf b → b ∉ frs outer := fun b z hb => t.offN (e0.frf b hb) z
  have hf : ∀ b o, H b = some (.frz o okT) → Nf b → s'.heap.get? b = some o ∧ H3 b = none := fun b o e z =>
    ⟨un.keep b o (at_ b o e z) (wn_in z) (nfr b z) (by simp), un.free b o (at_ b o e z) (wn_in z) (by simp)⟩
  refine ⟨v, mixN Nf H H3, os, bare, ⟨fun b o e n h1 h2 => un.keep b o e (off n) h1 h2, fun b o e n h1 h2 => un.slot b o e (off n) h1 h2, fun b o e n h2 => (mix_ni (t.offN n)).trans (un.free b o e (off n) h2), un.there, fun b xs e => ?_, fun b o u e => ?_, fun b ps e => ?_⟩, t.hok hf hok, r, q fun b z => let ⟨ob, _, e, _⟩ := t.all b z; (hf b ob e z).2⟩
  · have c := t.off e fun _ z => nomatch z
    rw [mix_ni c]; exact un.tups b xs ((wn_ni c).trans e)
  · by_cases c : Nf b
    · exact (mix_in c).trans e
    · rw [mix_ni c]; exact un.frzs b o u ((wn_ni c).trans e)
  · have c := t.off e fun _ z => nomatch z
    obtain ⟨more, z⟩ := un.tbls b ps ((wn_ni c).trans e)
    exact ⟨more, by rw [mix_ni c]; exact z⟩
/-- what is let out is let out from the frozen state too -/
def Backs (CX : CXT) (P : Program) (w : World) (K : PySem.W.Frag) (mg : Str → Option Value) (base : Heap) : Prop := ∀ (A : Around) (outer : List Env) (s : Shared) (H : Hp) (Nf : Addr → Prop) (E : XK) (e : Value) (s' : Shared), Thaw H Nf → Env0 P w K mg base A outer s H →
  CX outer (wn H Nf) s (fun c d H3 => (∀ b, Nf b → H3 b = none) → E c d (mixN Nf H H3)) e s' → CX outer H s E e s'
theorem backs0 : Backs L2.CX0 P w K mg base := fun _ _ _ _ _ _ _ _ _ _ z => z
theorem backsX : Backs (L2.CX P w) P w K mg base := fun A outer s H Nf E e s' t e0 ⟨a, B, H3, cls, d, e1, fl, hok, un, na, os, bare, hE⟩ => by
  have off : ∀ {b : Addr}, H b = none → wn H Nf b = none := fun {b} e => (wn_ni (t.offN e)).trans e
  have at_ : ∀ b o, H b = some (.frz o okT) → Nf b → s.heap.get? b = some o := fun b o e _ => (e0.hok b _ e).1
  have nfr : ∀ b, Nf b → b ∉ frs outer := fun b z hb => t.offN (e0.frf b hb) z
  have hf : ∀ b o, H b = some (.frz o okT) → Nf b → B.get? b = some o ∧ H3 b = none := fun b o e z =>
    ⟨un.keep b o (at_ b o e z) (wn_in z) (nfr b z), un.free b o (at_ b o e z) (wn_in z)⟩
  have nA : ¬ Nf a := fun z => by
    obtain ⟨ob, _, q, _⟩ := t.all a z
    have z2 := (hf a ob q z).1
    rw [fl.2.1] at z2; cases z2
  refine ⟨a, B, mixN Nf H H3, cls, d, e1, fl, t.hok hf hok, ⟨fun b o e n h1 => un.keep b o e (off n) h1, un.slot, fun b o e n => (mix_ni (t.offN n)).trans (un.free b o e (off n)), un.there, fun b xs e => ?_, fun b o u e => ?_, fun b ps e => ?_⟩, (mix_ni nA).trans na, os, bare, hE fun b z => let ⟨ob, _, q, _⟩ := t.all b z; (hf b ob q z).2⟩
  · have c := t.off e fun _ z => nomatch z
    rw [mix_ni c]; exact un.tups b xs ((wn_ni c).trans e)
  · by_cases c : Nf b
    · exact (mix_in c).trans e
    · rw [mix_ni c]; exact un.frzs b o u ((wn_ni c).trans e)
  · have c := t.off e fun _ z => nomatch z
    obtain ⟨more, z⟩ := un.tbls b ps ((wn_ni c).trans e)
    exact ⟨more, by rw [mix_ni c]; exact z⟩
end
theorem lam_cal {CX : CXT} {P : Program} {w : World} {K : PySem.W.Frag} {mg : Str → Option Value} {base : Heap} {N ps fr : List Str} {F : LF} {f : Addr} {k : Nat} {sp : Sp} {S S0 : Hp} {ws : List (Option V)} (C : CloK S f F fr ws) (Sc : NScope N ps fr F.scope) (bk : Backs CX P w K mg base)
    (hb : ∀ (pm ctv : Value) (us : List Value), us.length = ps.length → bindArgs (F.fd pm ctv) ⟨us, []⟩ = pure (ps.zip us)) (len : ∀ vs H Q E, sp vs H Q E → vs.length = ps.length) (e0 : Ex S0 S) (n0 : ∀ y c, F.cl.lookup y = some c → S0 c = none)
    (hbody : ∀ (A : Around) (outer : List Env) (s : Shared) (H : Hp) (vs : List V) (Q : VK) (E : XK), Room k (A.deeper (envF F.nf f s.heap.objs.size)) → Ex S H → Ex S0 (wn H (clN F)) → sp vs H Q E →
      ∃ t, PE (ncx CX P w K mg base N F.nf f A outer s (wn H (clN F)) (fun c d H3 => (∀ b, clN F b → H3 b = none) → E c d (mixN (clN F) H H3))) F.body t ∧ t (startF N vs ws) (wn H (clN F)) (fun v H3 => (∀ b, clN F b → H3 b = none) → Q v (mixN (clN F) H H3))) :
    Cal P w K mg base CX (k + 1) f sp S := by
  refine ⟨⟨F, C.fn⟩, fun A outer s H us vs Q E eS hr e1 r hsp => ?_⟩
  have C' := C.mono eS
  have t : Thaw H (clN F) := ⟨fun b ⟨y, z⟩ => C'.all y b z⟩
  have hl := len _ _ _ _ hsp
  have lim : s.heap.NoLimit := e1.mod.nolimit.keeps fun b o e => (e1.bs b o e).1
  obtain ⟨od, sl, pm, ctv, ho⟩ := lamO_at e1.hok C'.fn
  refine PySem.W.kla_callFunE hr.depth ho rfl Sc.co Sc.gen rfl (codeO_at e1.hok C'.co) ?_
  rw [hb pm ctv us (by rw [← r.length]; exact hl)]
  refine wpAny_pure (wpAny_newFunctionEnv Sc.nocell (fun ⟨n, _⟩ hy => Sc.par n (List.of_mem_zip hy).1) (fun h₁ hns hsb => ⟨lim.fresh _ hsb, ?_⟩) Sc.kind)
  show codeAny _ _ (.expr F.body (envF F.nf f s.heap.objs.size)) _ _
  have kp : ∀ b o, s.heap.get? b = some o → h₁.get? b = some o := fun b o e => hsb.extBut b o (Nat.ne_of_lt (Heap.lt_size e)) (Heap.get?_push_of_some _ e)
  have x0 : Ex S0 (wn H (clN F)) := fun b o e => by
    rw [wn_ni fun ⟨y, z⟩ => by rw [n0 y b z] at e; cases e]
    exact eS _ _ (e0 _ _ e)
  obtain ⟨tb, ht, hq⟩ := hbody A outer s H vs Q E (hr.deeper _) eS x0 hsp
  have cells : CellsAt F.cl fr ws s.heap (wn H (clN F)) := ⟨C'.len, fun y c e => ⟨wn_in ⟨y, e⟩, let ⟨o, v, q1, q2⟩ := C'.all y c e; ⟨v, o, (e1.hok c _ q1).1, q2⟩⟩, C'.inj, fun i y e => let ⟨c, q1, q2⟩ := C'.has i y e; ⟨c, q1, fun v hv => let ⟨o, u, q3, q4, q5⟩ := q2 v hv; ⟨u, q5, o, (e1.hok c _ q3).1, q4⟩⟩⟩
  have I : Inv (ncx CX P w K mg base N F.nf f A outer s (wn H (clN F)) (fun c d H3 => (∀ b, clN F b → H3 b = none) → E c d (mixN (clN F) H H3))) [] (startF N vs ws) (wn H (clN F)) { s with heap := h₁, toks := s.toks + (ps.zip us).length } := inv_startN (F := F.nf) Sc hr.hd (t.env e1) hl r cells hns kp
  refine PySem.W.kla_codeExpr (wpAny_mono (ht.run [] _ _ _ _ I hq) (fun v s' hv => ?_) fun e s' he => wpAny_mono he (fun _ s'' z => bk A outer s H _ E e s'' t e1 z) fun e' s'' z => bk A outer s H _ E e' s'' t e1 z)
  obtain ⟨v', H', J, rv, q⟩ := hv
  exact t.back e1 ⟨v', H', J.os, J.bare, J.base, J.hok, rv, q⟩
end Sw
namespace Sw
open PySem PySem.Spec PyProof.Rows L2 Evl LamX NdefX
/-- a def whose code object stands at c -/
structure FunC (K : PySem.W.Frag) (x qual : Str) (st : Stmt) (f : Addr) (fd : FuncData) (c : Addr) : Prop where
  ex : ∃ (oc : Value) (od : Option Addr) (kV doc pm : Value) (an : Option Addr) (ct : Value) (osl : Array (Option Value)), fd = PySem.W.fnOf x qual (L2.defArgs st) (L2.defBody st) (L2.defScope st) .none kV doc pm an (.ref c) ct ∧ K.lookup f = some ⟨oc, od, .func fd, osl⟩ ∧ PySem.W.codeIn K (.ref c) qual = true
theorem FunC.ok {P : Program} {w : World} {K : PySem.W.Frag} {mg : Str → Option Value} {base : Heap} {x qual : Str} {st : Stmt} {f : Addr} {fd : FuncData} {c : Addr} {N ps : List Str} {k : Nat} {sp : Sp} (F : FunC K x qual st f fd c) (S : FnScope N ps (L2.defScope st)) (len : ∀ vs H Q E, sp vs H Q E → vs.length = ps.length)
    (hbody : ∀ (A : Around) (outer : List Env) (s : Shared) (H : Hp) (vs : List V) (Q : VK) (E : XK), Room k (A.deeper (envOfC qual (L2.defScope st) s.heap.objs.size f (.ref c))) → sp vs H Q E →
      ∃ t, PSs (cxOf L2.CX0 P w K mg base N qual (L2.defScope st) f (.ref c) A outer s H E).nox (L2.defBody st) t ∧ t { nx := fun _ H' => Q .non H', rt := Q } (L2.start N vs) H) : FnOk P w K mg base L2.CX0 (k + 1) f fd ps sp := by
  obtain ⟨oc, od, kV, doc, pm, an, ct, osl, rfl, lk, hcd⟩ := F.ex
  exact fn_of lk hcd S len fun A outer s H vs Q E hr hsp => let ⟨t, h, q⟩ := hbody A outer s H vs Q E hr hsp; ⟨t, h.nox, q⟩
theorem funC_mk {K : PySem.W.Frag} {x qual : Str} {st : Stmt} {f c : Addr} {oc : Value} {od an : Option Addr} {osl : Array (Option Value)} {kV doc pm ct : Value} (l : K.lookup f = some ⟨oc, od, .func (PySem.W.fnOf x qual (L2.defArgs st) (L2.defBody st) (L2.defScope st) .none kV doc pm an (.ref c) ct), osl⟩)
    (h : PySem.W.codeIn K (.ref c) qual = true) : FunC K x qual st f (PySem.W.fnOf x qual (L2.defArgs st) (L2.defBody st) (L2.defScope st) .none kV doc pm an (.ref c) ct) c := ⟨oc, od, kV, doc, pm, an, ct, osl, rfl, l, h⟩
/-! ### a heap without its tables -/
def nt (H : Hp) : Hp := fun b => match H b with
  | some (.tbl _) => none
  | o => o
theorem nt_of {H : Hp} {b : Addr} {o : HO} (e : H b = some o) (n : ∀ ps, o ≠ .tbl ps) : nt H b = some o := by
  unfold nt
  rw [e]
  cases o <;> first | rfl | exact absurd rfl (n _)
theorem nt_some {H : Hp} {b : Addr} {o : HO} (e : nt H b = some o) : H b = some o ∧ ∀ ps, o ≠ .tbl ps := by
  unfold nt at e
  cases q : H b with
  | none => rw [q] at e; cases e
  | some u =>
    rw [q] at e
    cases u <;> first | (cases e; exact ⟨rfl, fun _ z => nomatch z⟩) | cases e
theorem nt_ex {H : Hp} : Ex (nt H) H := fun _ _ e => (nt_some e).1
theorem extN_nt {H H1 : Hp} (e : ExtN H H1) : Ex (nt H) (nt H1) := fun b o h => nt_of (e b o (nt_some h).1 (nt_some h).2) (nt_some h).2
theorem extN_of {H H1 : Hp} (e : Ex H H1) : ExtN H H1 := fun b o h _ => e b o h
theorem extN_wn {H H1 : Hp} {N : Addr → Prop} (e : ExtN H H1) : ExtN (wn H N) (wn H1 N) := fun b o h n => by
  obtain ⟨q1, q2⟩ := wn_some h
  rw [wn_ni q1]; exact e b o q2 n
theorem nt_t {K : PySem.W.Frag} {H : Hp} {a : Addr} {xs : List V} (h : SqT K H a xs) : SqT K (nt H) a xs := by
  rcases h with (h | ⟨u, h⟩) | h
  · exact .inl (.inl (nt_of h fun _ z => nomatch z))
  · exact .inl (.inr ⟨u, nt_of h fun _ z => nomatch z⟩)
  · exact .inr h
theorem nt_l {K : PySem.W.Frag} {H : Hp} {a : Addr} {xs : List V} (h : SqL K H a xs) : SqL K (nt H) a xs := by
  rcases h with (h | ⟨u, h⟩) | h
  · exact .inl (.inl (nt_of h fun _ z => nomatch z))
  · exact .inl (.inr ⟨u, nt_of h fun _ z => nomatch z⟩)
  · exact .inr h
theorem tabsN_ext {T : List NTab} {H H' : Hp} (t : TabsN T H) (e : Ex H H') : TabsN T H' := t.ext e
end Sw
namespace Sw
open PySem PySem.Spec PyProof.Rows L2 Evl LamX NdefX
/-! ### lambdas with one parameter that has a number as its default -/
theorem evalD {M : Model} {A : Around} {E Q : Value → Shared → Prop} {s : Shared} {params : Arguments} {body e : Expr} {scope : Scope} {pos : Pos} {env : Env} (hdef : defaultsOf params env = ([eval e env], []))
    (h : wpAny M A (eval e env) (fun v s1 => wpAny M A (makeFunction "<lambda>" (env.qual ++ "<lambda>") params (.expr body) scope env [v] [] [] pos pos.line) Q E s1) E s) : wpAny M A (eval (.Lambda params body scope pos) env) Q E s := by
  rw [arm_eval_Lambda, hdef]
  show wpAny M A (do let dv ← evalAll [eval e env]; let kdv ← holding dv (evalAllOpt []); makeFunction "<lambda>" (env.qual ++ "<lambda>") params (.expr body) scope env dv kdv [] pos pos.line) Q E s
  refine wpAny_bind ?_
  show wpAny M A (eval e env >>= fun v => holding [v] (evalAll []) >>= fun r => pure (v :: r)) _ E s
  refine wpAny_bind (wpAny_mono h (fun v s1 h1 => ?_) fun _ _ z => z)
  exact wpAny_bind (wpAny_holding (wpAny_pure (wpAny_pure (wpAny_bind (wpAny_holding (wpAny_pure h1))))))
section
variable {X : Cx} {pins : List (Addr × Obj)} {σ : L2.St} {H : Hp} {s : Shared}
theorem lam_newD {T : List NTab} {nm : Nat → Nat → Str} {c P : Addr} {params : Arguments} {body e : Expr} {scope : Scope} {pos : Pos} {i : Int} {E Q : Value → Shared → Prop} (I : Inv X pins σ H s) (TB : TabB X.base X.mg c P) (hcode : X.env.code = .ref c) (hm : (P, nm) ∈ T)
    (hn : nm pos.line pos.col = X.env.qual ++ "<lambda>") (hu : ∀ p ∈ T, p.1 = P → p.2 = nm) (hT : TabsN T H) (he : PE X e (tC (.int i))) (hE : E = X.xe) (hdef : defaultsOf params X.env = ([eval e X.env], [])) (hfree : ∀ y ∈ scope.names, y.2 = .free → ∃ c, X.env.cells.lookup y.1 = some c)
    (fin : ∀ (f c' t : Addr) (H1 : Hp) (s' : Shared), Inv X pins σ H1 s' → ExtN H H1 → (∀ b, H1 b = Option.none → H b = Option.none) → TabsN T H1 → H f = none → H1 f = some (LamO f ⟨X.env.qual ++ "<lambda>", params, body, scope, cloFrom X.env.cells scope.names [], c', .ref t⟩) → H1 c' = some (CodeO c' (X.env.qual ++ "<lambda>")) → H1 t = some (.tup [.int i]) → Q (.ref f) s') :
    wpAny (model X.prog X.w) X.A (eval (.Lambda params body scope pos) X.env) Q E s := by
  subst hE
  refine evalD hdef (thn (he.run pins s σ H (fun v H1 => v = .int i ∧ H1 = H) I ⟨rfl, rfl⟩) fun u s1 ⟨v, H1, I1, r, ev, eH⟩ => ?_)
  subst ev eH
  obtain ⟨tk, rfl⟩ := (show ∃ t, u = Value.int i t from r)
  rw [makeFunction_eq]
  simp only [List.zip_nil_right, List.filterMap_nil, List.isEmpty_nil, List.isEmpty_cons, Bool.false_eq_true, if_false, if_true, pure_bind]
  refine wpAny_bind (wpAny_newTextTuple ?_)
  have nT : H1 s1.heap.objs.size = none := I1.hok.fresh (Nat.le_refl _)
  have I2 := I1.laid (h' := s1.heap.push ({ cls := .type "tuple", data := .seq #[Value.int i tk] } : Obj)) (o := .tup [.int i]) (t' := s1.toks) (fun b u e => Heap.get?_push_of_some _ e) (Nat.le_refl _) ⟨by show 1 ≤ sizeLine; decide, [Value.int i tk], .cons ⟨tk, rfl⟩ .nil, ⟨_, Heap.get?_push_size _ rfl, rfl, _, rfl⟩⟩
  exact lam_tail (dv := .ref s1.heap.objs.size) I2 TB hcode hm hn hu (hT.ext fun b o e => (upd_ne (ne_of_none e nT)).trans e) hfree fun f c' H3 s' I3 e1 e2 e3 e4 e5 e6 =>
    fin f c' s1.heap.objs.size H3 s' I3 (fun b o hb n => e1 b o ((upd_ne (ne_of_none hb nT)).trans hb) n) (fun b z => upd_none (e2 b z)) e3 (upd_none e4) e5 e6 (e1 _ _ upd_same fun _ z => nomatch z)
end
/-- the reading of such a lambda -/
def tLamD (T : List NTab) (mk : Addr → Addr → LF) (i : Int) : TE := fun σ H Q => TabsN T H ∧ ∀ (f c' t : Addr) (H1 : Hp), ExtN H H1 → (∀ b, H1 b = Option.none → H b = Option.none) → TabsN T H1 → H f = none → H1 f = some (LamO f (mk c' t)) → H1 c' = some (CodeO c' (mk c' t).qual) → H1 t = some (.tup [.int i]) → Q (.ref f) H1
theorem pe_lamD {X : Cx} {T : List NTab} {nm : Nat → Nat → Str} {c P : Addr} {params : Arguments} {body e : Expr} {scope : Scope} {pos : Pos} {i : Int} (TB : TabB X.base X.mg c P) (hcode : X.env.code = .ref c) (hm : (P, nm) ∈ T) (hn : nm pos.line pos.col = X.env.qual ++ "<lambda>") (hu : ∀ p ∈ T, p.1 = P → p.2 = nm) (he : PE X e (tC (.int i)))
    (hdef : defaultsOf params X.env = ([eval e X.env], [])) (hfree : ∀ y ∈ scope.names, y.2 = .free → X.env.scope.names.lookup y.1 = some .cell ∨ X.env.scope.names.lookup y.1 = some .free) :
    PE X (.Lambda params body scope pos) (tLamD T (fun c' t => ⟨X.env.qual ++ "<lambda>", params, body, scope, cloFrom X.env.cells scope.names [], c', .ref t⟩) i) := by
  refine ⟨fun pins s σ H Q I ⟨hT, h⟩ => ?_⟩
  exact lam_newD I TB hcode hm hn hu hT he rfl hdef (fun y hy e => (hfree y hy e).elim (fun z => I.ok.has _ (.inl z)) fun z => I.ok.has _ (.inr z)) fun f c' t H1 s' I1 e1 e2 e3 e4 e5 e6 e7 => ⟨.ref f, H1, I1, rfl, h f c' t H1 e1 e2 e3 e4 e5 e6 e7⟩
theorem lam_calD {CX : CXT} {P : Program} {w : World} {K : PySem.W.Frag} {mg : Str → Option Value} {base : Heap} {N fr : List Str} {p : Str} {F : LF} {f t : Addr} {i : Int} {k : Nat} {sp : Sp} {S S0 : Hp} {ws : List (Option V)} (C : CloK S f F fr ws) (ht : S t = some (.tup [.int i])) (Sc : NScope N [p] fr F.scope) (bk : Backs CX P w K mg base)
    (hb : ∀ (pm ctv u : Value) (s : Shared) (o : Obj) (n : Nat), s.heap.get? t = some o → o.data = .seq #[u] n → BindsTo s (F.fd pm ctv) ⟨[], []⟩ [(p, u)]) (len : ∀ vs H Q E, sp vs H Q E → vs = []) (e0 : Ex S0 S) (n0 : ∀ y c, F.cl.lookup y = some c → S0 c = none)
    (hbody : ∀ (A : Around) (outer : List Env) (s : Shared) (H : Hp) (Q : VK) (E : XK), Room k (A.deeper (envF F.nf f s.heap.objs.size)) → Ex S H → Ex S0 (wn H (clN F)) → sp [] H Q E →
      ∃ t, PE (ncx CX P w K mg base N F.nf f A outer s (wn H (clN F)) (fun c d H3 => (∀ b, clN F b → H3 b = none) → E c d (mixN (clN F) H H3))) F.body t ∧ t (startF N [.int i] ws) (wn H (clN F)) (fun v H3 => (∀ b, clN F b → H3 b = none) → Q v (mixN (clN F) H H3))) :
    Cal P w K mg base CX (k + 1) f sp S := by
  refine ⟨⟨F, C.fn⟩, fun A outer s H us vs Q E eS hr e1 r hsp => ?_⟩
  obtain rfl := len _ _ _ _ hsp
  cases r
  have C' := C.mono eS
  have th : Thaw H (clN F) := ⟨fun b ⟨y, z⟩ => C'.all y b z⟩
  have lim : s.heap.NoLimit := e1.mod.nolimit.keeps fun b o e => (e1.bs b o e).1
  obtain ⟨od, sl, pm, ctv, ho⟩ := lamO_at e1.hok C'.fn
  obtain ⟨_, its, ri, o, ho2, hc2, n, hd2⟩ := (show ObjOk P w H s.heap t (.tup [.int i]) from e1.hok t _ (eS _ _ ht))
  cases ri with | cons ru rn =>
  cases rn
  rename_i u
  refine PySem.W.kla_callFunE hr.depth ho rfl Sc.co Sc.gen rfl (codeO_at e1.hok C'.co) (hb pm ctv u s o n ho2 hd2 _ _ _ _ ?_)
  refine wpAny_newFunctionEnv Sc.nocell (fun ⟨n, _⟩ hy => Sc.par n (by have z := List.mem_singleton.mp hy; rw [(Prod.mk.inj z).1]; exact List.mem_singleton.mpr rfl)) (fun h₁ hns hsb => ⟨lim.fresh _ hsb, ?_⟩) Sc.kind
  show codeAny _ _ (.expr F.body (envF F.nf f s.heap.objs.size)) _ _
  have kp : ∀ b o, s.heap.get? b = some o → h₁.get? b = some o := fun b o e => hsb.extBut b o (Nat.ne_of_lt (Heap.lt_size e)) (Heap.get?_push_of_some _ e)
  have x0 : Ex S0 (wn H (clN F)) := fun b o e => by
    rw [wn_ni fun ⟨y, z⟩ => by rw [n0 y b z] at e; cases e]
    exact eS _ _ (e0 _ _ e)
  obtain ⟨tb, ht, hq⟩ := hbody A outer s H Q E (hr.deeper _) eS x0 hsp
  have cells : CellsAt F.cl fr ws s.heap (wn H (clN F)) := ⟨C'.len, fun y c e => ⟨wn_in ⟨y, e⟩, let ⟨o, v, q1, q2⟩ := C'.all y c e; ⟨v, o, (e1.hok c _ q1).1, q2⟩⟩, C'.inj, fun i y e => let ⟨c, q1, q2⟩ := C'.has i y e; ⟨c, q1, fun v hv => let ⟨o, u, q3, q4, q5⟩ := q2 v hv; ⟨u, q5, o, (e1.hok c _ q3).1, q4⟩⟩⟩
  have I : Inv (ncx CX P w K mg base N F.nf f A outer s (wn H (clN F)) (fun c d H3 => (∀ b, clN F b → H3 b = none) → E c d (mixN (clN F) H H3))) [] (startF N [.int i] ws) (wn H (clN F)) { s with heap := h₁, toks := s.toks + ([p].zip [u]).length } := inv_startN (F := F.nf) Sc hr.hd (th.env e1) rfl (.cons ru .nil) cells hns kp
  refine PySem.W.kla_codeExpr (wpAny_mono (ht.run [] _ _ _ _ I hq) (fun v s' hv => ?_) fun e s' he => wpAny_mono he (fun _ s'' z => bk A outer s H _ E e s'' th e1 z) fun e' s'' z => bk A outer s H _ E e' s'' th e1 z)
  obtain ⟨v', H', J, rv, q⟩ := hv
  exact th.back e1 ⟨v', H', J.os, J.bare, J.base, J.hok, rv, q⟩
end Sw
namespace Sw
open PySem PySem.Spec PyProof.Rows L2 Evl LamX NdefX
/-! ### an exception's own __init__ that begins with super().__init__(..) -/
/-- what the written part says of such a method: its object, its code, its cell, its class -/
structure SupF (P : Program) (K : PySem.W.Frag) (qual : Str) (st : Stmt) (f : Addr) (fd : FuncData) (cda cc D : Addr) : Prop where
  ex : ∃ (oc : Value) (od : Option Addr) (kV doc pm : Value) (an : Option Addr) (ct : Value) (osl : Array (Option Value)), fd = PySem.W.ksFn "__init__" qual (L2.defArgs st) (L2.defBody st) (L2.defScope st) .none kV doc pm an (.ref cda) ct cc ∧ K.lookup f = some ⟨oc, od, .func fd, osl⟩ ∧ PySem.W.codeIn K (.ref cda) qual = true
  code : ∃ (oc : Value) (od : Option Addr) (vs : Array Value) (sl : Array (Option Value)) (file : Str) (tf : Tok), K.lookup cda = some ⟨oc, od, .fields vs, sl⟩ ∧ vs[2]? = some (.str file tf) ∧ ((P.main.file : Str) == file) = true
  cell : ∃ (oc : Value) (od : Option Addr) (sl : Array (Option Value)), K.lookup cc = some ⟨oc, od, .cell (some (.ref D)), sl⟩
  any : PySem.W.nsIn K cStatics "thirdparty.any" = some none
  sup : PySem.W.ks_superIn K D D "__init__" = some (some (.builtin "ValueError.__init__"))
  sub : PySem.W.mroIn K D (.ref D) = some true
  subV : PySem.W.subIn K (.ref D) (.type "ValueError") = some true
  top : (P.main.scope.names.lookup ("super" : Str)).isSome = false
theorem inv_pin {X : Cx} {pins : List (Addr × Obj)} {σ : L2.St} {H : Hp} {s : Shared} {p : Addr × Obj} (I : Inv X pins σ H s) (h : s.heap.get? p.1 = some p.2 ∧ H p.1 = none ∧ p.1 ≠ X.env.locals ∧ p.1 ∉ X.fs ∧ ∀ v, p.2.data ≠ .cell v) : Inv X (p :: pins) σ H s := I.pins_of fun q hq => by
  rcases List.mem_cons.mp hq with rfl | hq
  · exact h
  · exact I.pin q (List.mem_append_right _ hq)
theorem inv_unpin {X : Cx} {pins : List (Addr × Obj)} {σ : L2.St} {H : Hp} {s : Shared} {p : Addr × Obj} (I : Inv X (p :: pins) σ H s) : Inv X pins σ H s := I.pins_of fun q hq => I.pin q (List.mem_append_right _ (List.mem_cons_of_mem _ hq))
/-- the bound initializer is called: the exception's arguments are set, nothing of them is told -/
theorem mw_call {X : Cx} {pins : List (Addr × Obj)} {σ : L2.St} {H : Hp} {s : Shared} {C a u : Addr} {us : List Value} {Q : Value → Shared → Prop} {E : Value → Shared → Prop} {A : Around} (T : OexC X.K C) (I : Inv X pins σ H s) (e : H a = some (exo a C none)) (hu : s.heap.get? u = some (PySem.W.kxs_mw "ValueError.__init__" a)) (hl : us.length ≤ sizeLine)
    (h : ∀ s', Inv X pins σ H s' → Q .none s') : wpAny (model X.prog X.w) A (call (.ref u) us) Q E s := by
  obtain ⟨nm, q, N, bs, bm, sn, sub, ab, col, dd, k0, k1, k2, k3, k5, hC, hbm⟩ := T.cls
  obtain ⟨t1, ho⟩ := exo_at I.hok e
  have kI := I.kIn _ _ hC
  have eu : upd H a (exo a C none) = H := by
    funext b
    by_cases hb : b = a
    · rw [hb, upd_same, e]
    · rw [upd_ne hb]
  obtain ⟨hp, g, d, t, os⟩ := s
  refine wpAny_call (codeAny_of_tree ?_)
  show wpAny _ A.in1 (callAny (.ref u) ⟨us, []⟩) _ _ _
  simp only [callAny]
  refine wpAny_bind (wpAny_load hu ?_)
  simp only [PySem.W.kxs_mw, show (Value.type "method-wrapper" == Value.type "method" || Value.type "method-wrapper" == Value.type "builtin_function_or_method" || Value.type "method-wrapper" == Value.type "method-wrapper") = true by decide, if_true]
  refine PySem.W.KFB.if_so (by decide) ?_
  refine wpAny_bind (PySem.W.check_bound_init PySem.F.excBase_ValueError.toExcCallFacts kI ho rfl ?_)
  refine wpAny_bind (wpAny_pure (wpAny_pure ?_))
  refine ⟨plainId_quiet PySem.F.excBase_ValueError.init.plain _, codeAny_builtin PySem.F.excBase_ValueError.initEntry ?_⟩
  refine PySem.W.exc_init_tree (cls := .ref C) (t0 := t1) (dv := none) (c2 := .none) (c3 := .none) (b4 := .bool false) ho hl fun h' k hx _ => ?_
  have J := I.write (t' := t) (x := a) (e := a) (o := exo a C none) (by rw [e]; exact True.intro) (.inl rfl) k ⟨_, hx⟩ (exo_ok hx)
  rw [eu] at J
  exact h _ J
/-- such a method keeps its promise -/
theorem sup_fn {CX : CXT} {P : Program} {w : World} {K : PySem.W.Frag} {mg : Str → Option Value} {base : Heap} {k : Nat} {f cda cc D : Addr} {fd : FuncData} {qual : Str} {st : Stmt} {N ps : List Str} {sp : Sp} {ar : Arg} {x : Expr} {rest : List Stmt} {p0 p1 p2 pos1 pos2 : Pos} {pl : Sem Bool}
    (F : SupF P K qual st f fd cda cc D) (T : OexC K D) (hst : L2.defBody st = .Expr (.Call (.Attribute (.Call (.Name "super" p0) [] [] p1) "__init__" p2) [x] [] pos1) pos2 :: rest) (S : NScope N ps ["__class__"] (L2.defScope st))
    (hself : ((L2.defArgs st).posonlyargs ++ (L2.defArgs st).args).head? = some ar) (hN0 : N[0]? = some ar.arg) (hka : (L2.defScope st).names.lookup ar.arg = some .local) (hks : (L2.defScope st).names.lookup ("super" : Str) = some .globalImplicit) (hmg : mg "super" = none)
    (hpl : ∀ env : Env, eval (.Call (.Attribute (.Call (.Name "super" p0) [] [] p1) "__init__" p2) [x] [] pos1) env = (do
      let ov ← attributeBase (.Call (.Name "super" p0) [] [] p1) "__init__" env (eval (.Call (.Name "super" p0) [] [] p1) env)
      standAt p2.atName
      let (f, first) ← holding [ov] (getMethod ov "__init__" pl)
      callWith pos1 f first (backTo pos1 (starEach [x] env)) [])) (hsw : ∀ (l : Nat) (env : Env), swapsWith (.Call (.Attribute (.Call (.Name "super" p0) [] [] p1) "__init__" p2) [x] [] pos1) none l env = pure false) (hsx : ∀ env : Env, starEach [x] env = (false, eval x env) :: starEach [] env)
    (len : ∀ vs H Q E, sp vs H Q E → vs.length = ps.length)
    (hbody : ∀ (A : Around) (outer : List Env) (s : Shared) (H : Hp) (vs : List V) (Q : VK) (E : XK), Room k (A.deeper (envF ⟨"__init__", qual, L2.defArgs st, L2.defBody st, L2.defScope st, [("__class__", cc)], cda⟩ f s.heap.objs.size)) → sp vs H Q E →
      ∃ (ta : TA) (tr : TS) (a : Addr) (ws : List V), PA (ncx CX P w K mg base N ⟨"__init__", qual, L2.defArgs st, L2.defBody st, L2.defScope st, [("__class__", cc)], cda⟩ f A outer s H E) [x] ta ∧ PSs (ncx CX P w K mg base N ⟨"__init__", qual, L2.defArgs st, L2.defBody st, L2.defScope st, [("__class__", cc)], cda⟩ f A outer s H E) rest tr ∧
        vs = .ref a :: ws ∧ H a = some (exo a D none) ∧ ta (startF N vs [none]) H (fun us H1 => us.length ≤ 1000 ∧ H1 a = some (exo a D none) ∧ tr { nx := fun _ H' => Q .non H', rt := Q } (startF N vs [none]) H1)) :
    FnOk P w K mg base CX (k + 1) f fd ps sp := by
  obtain ⟨oc, od, kV, doc, pm, an, ct, osl, rfl, lk, hcd⟩ := F.ex
  obtain ⟨oc1, od1, cvs, sl1, file, tf, hcode, hvs, hfile⟩ := F.code
  obtain ⟨oc2, od2, sl2, hcell⟩ := F.cell
  obtain ⟨nm, q, NN, bs, bm, sn, sub, ab, col, dd, k0, k1, k2, k3, k5, hC, hbm⟩ := T.cls
  have hcl : PySem.W.clsIn K D = some { name := nm, bases := bs, mro := .ref D :: bm, ns := NN, qualname := q, hasDict := true, slotNames := sn, subclasses := sub, abstract := ab, collection := col, hasDel := false } := by unfold PySem.W.clsIn; rw [hC] <;> rfl
  refine ⟨len, fun A outer s H args us vs Q E hr e0 hb r hsp => ?_⟩
  have hl := len _ _ _ _ hsp
  have KX : K.In s.heap := e0.mod.kin.keeps fun b o e => (e0.bs b o e).1
  have lim : s.heap.NoLimit := e0.mod.nolimit.keeps fun b o e => (e0.bs b o e).1
  have kc : (L2.defScope st).names.lookup ("__class__" : Str) = some .free := S.frk _ (by simp)
  refine ks_codeAny_call_defAt (body := .Expr (.Call (.Attribute (.Call (.Name "super" p0) [] [] p1) "__init__" p2) [x] [] pos1) pos2 :: rest) (binds := ps.zip us) hr.depth (KX _ _ lk) rfl lim (PySem.W.codeRec_of KX hcd) (by rw [← hst]) hb S.nocell (fun ⟨n, v⟩ hy => S.par n (List.of_mem_zip hy).1) (fun h₁ hns kp => ?_) S.co S.gen S.kind
  obtain ⟨ta, tr, a, ws, hx, hrest, rfl, ea, hq⟩ := hbody A outer s H vs Q E (hr.deeper _) hsp
  have hlk : ∀ (y : Str) (c : Addr), List.lookup y [(("__class__" : Str), cc)] = some c → y = "__class__" ∧ c = cc := fun y c e => by
    cases h : (y == ("__class__" : Str)) with
    | true => simp only [List.lookup, h, Option.some.injEq] at e; exact ⟨beq_iff_eq.mp h, e.symm⟩
    | false => simp [List.lookup, h] at e
  have cells : CellsAt [(("__class__" : Str), cc)] ["__class__"] [none] s.heap H := by
    refine ⟨rfl, fun y c e => ?_, fun y z c e1 e2 => (hlk y c e1).1.trans (hlk z c e2).1.symm, fun i y e => ?_⟩
    · rw [(hlk y c e).2]; exact ⟨(e0.bs _ _ (e0.mod.kin _ _ hcell)).2, _, _, KX _ _ hcell, rfl⟩
    · match i, e with
      | 0, e => cases e; exact ⟨cc, rfl, fun v hv => by cases hv⟩
  have I : Inv (ncx CX P w K mg base N ⟨"__init__", qual, L2.defArgs st, L2.defBody st, L2.defScope st, [("__class__", cc)], cda⟩ f A outer s H E) [] (startF N (V.ref a :: ws) [none]) H { s with heap := h₁, toks := s.toks + (ps.zip us).length } := inv_startN (F := ⟨"__init__", qual, L2.defArgs st, L2.defBody st, L2.defScope st, [("__class__", cc)], cda⟩) S hr.hd e0 hl r cells hns kp
  refine ks_wpAt_execs_cons (ks_wpAt_Expr_any (ks_wpAt_MethodCall (pl := pl) ?_ (hpl _)) I.quiet (hsw _ _))
  have ho := exo_at I.hok ea
  obtain ⟨t1, ho⟩ := ho
  obtain ⟨mb, hb1, hb2⟩ := I.mod.blt
  have hD := I.kIn _ _ hC
  refine ks_wpAt_super_base hks kc rfl rfl (I.kIn _ _ lk) rfl hself rfl (I.kIn _ _ hcode) rfl hvs hfile F.top ?_
  refine PySem.W.ks_loadName_global S.kind hks (Calls.loadGlobal_builtin (I.mod.glob.keeps I.bk) hmg (hb1.keeps I.bk) ((hb2 _ (by decide)).trans (by first | boot_by_name | rfl | kernel_rfl)) ⟨rfl, ?_⟩)
  refine wpAny_loadName_free S.kind kc rfl ⟨_, I.kIn _ _ hcell, rfl⟩ ?_
  obtain ⟨m, hn, hlo⟩ := I.loc
  obtain ⟨u, ru, lku⟩ := hlo 0 ar.arg (.ref a) hN0 rfl (.inl hka)
  obtain rfl : u = Value.ref a := ru
  have hv : m ar.arg = some (Value.ref a) := by
    rcases lku with ⟨_, z⟩ | ⟨z, _⟩
    · exact z
    · have z' : (L2.defScope st).names.lookup ar.arg = some .cell ∨ (L2.defScope st).names.lookup ar.arg = some .free := z
      rw [hka] at z'; rcases z' with z' | z' <;> cases z'
  refine wpAny_loadName_local S.kind hka hn hv ?_
  refine ks_wpAny_isType_cls hD rfl ⟨rfl, ?_⟩
  refine ks_wpAny_call_super hD rfl ho rfl (fun c z => by cases z) (PySem.W.looks_mroIn I.kIn F.sub) (fun h' eso kk => ?_)
  have I1 := I.kept (t' := s.toks + (ps.zip us).length) kk
  have ho1 := kk _ _ ho
  have LT : PySem.W.Looks (model P w) h' (typeOf (.ref a)) (.ref D) := fun A Q E s k q => wpAny_typeOf_ref (k _ _ ho1) q
  have LI : PySem.W.Looks (model P w) h' (isInstance (.ref a) (.type "ValueError")) true := LT.andThen (PySem.W.looks_subIn I1.kIn F.subV)
  have ne : a ≠ D := fun z => by
    subst z
    rw [ho] at hD
    cases hD
  have hsup : PySem.W.alongIn K "__init__" (((Value.ref D :: bm).dropWhile (· != Value.ref D)).drop 1) = some (some (.builtin "ValueError.__init__")) := by
    have z := F.sup
    unfold PySem.W.ks_superIn at z
    rw [hcl] at z
    exact z
  refine PySem.W.kxs_getMethod PySem.W.kxs_ValueError eso (PySem.W.looks_opaque I1.kIn F.any) (l₀ := .ref D :: bm) (fun A Q E s k q => wpAny_bind ((PySem.W.looks_clsIn I1.kIn hcl) A _ E s k (wpAny_pure q))) rfl I1.kIn hsup LI ne rfl ?_
  have I2 := I1.kept (t' := s.toks + (ps.zip us).length + 1) (h' := h'.push (PySem.W.kxs_mw "ValueError.__init__" a)) (fun b o e => Heap.get?_push_of_some _ e)
  have gu : (h'.push (PySem.W.kxs_mw "ValueError.__init__" a)).get? h'.objs.size = some (PySem.W.kxs_mw "ValueError.__init__" a) := Heap.get?_push_size _ rfl
  have nl : h'.objs.size ≠ s.heap.objs.size := Nat.ne_of_gt I1.lt
  have I3 := inv_pin (p := (h'.objs.size, PySem.W.kxs_mw "ValueError.__init__" a)) I2 ⟨gu, I1.hok.fresh (Nat.le_refl _), nl, I1.nofs (Nat.le_refl _), fun v z => nomatch z⟩
  have hxr := fun pos => hx.run pos _ _ _ _ _ I3 hq
  have hsx' := hsx (envF ⟨"__init__", qual, L2.defArgs st, L2.defBody st, L2.defScope st, [("__class__", cc)], cda⟩ f s.heap.objs.size)
  show wpAny _ _ (callWith pos1 (.ref h'.objs.size) [] (backTo pos1 (starEach [x] (envF ⟨"__init__", qual, L2.defArgs st, L2.defBody st, L2.defScope st, [("__class__", cc)], cda⟩ f s.heap.objs.size))) []) _ _ _
  have hx1 := hxr pos1
  have hx2 : wpAny (model P w) (A.deeper (envF ⟨"__init__", qual, L2.defArgs st, L2.defBody st, L2.defScope st, [("__class__", cc)], cda⟩ f s.heap.objs.size)) (spliced (backTo pos1 (starEach [x] (envF ⟨"__init__", qual, L2.defArgs st, L2.defBody st, L2.defScope st, [("__class__", cc)], cda⟩ f s.heap.objs.size)))) _ _ _ := hx1
  rw [hsx'] at hx2 ⊢
  refine PySem.W.kxs_callWith (i := "ValueError.__init__") (x := a) rfl (Calls.evalArgs_plain (wpAny_mono hx2 (fun vv s1 hs1 => ?_) fun e s' z => z))
  obtain ⟨vs1, H1, J1, r1, hz, ea1, q1⟩ := hs1
  have pu := (J1.pin _ (List.mem_append_right _ List.mem_cons_self)).1
  refine ⟨pu, ?_⟩
  refine mw_call T J1 ea1 pu (by rw [List.nil_append, ← Paired.length r1, sizeLine_eq]; omega) fun s2 J2 => ?_
  refine wpAt_of_wpAny (wpAny_mono (hrest.run [] _ _ _ _ (inv_unpin J2) q1) (fun fl s' hs => ?_) fun e s' z => z)
  have fin : ∀ {σ' : L2.St} {H' : Hp} {v : V} {u : Value}, Inv (ncx CX P w K mg base N ⟨"__init__", qual, L2.defArgs st, L2.defBody st, L2.defScope st, [("__class__", cc)], cda⟩ f A outer s H E) [] σ' H' s' → RelV v u → Q v H' → CE outer P w H s Q u s' :=
    fun {σ' H' v u} J rv q => ⟨v, H', J.os, J.bare, J.base, J.hok, rv, q⟩
  cases fl with
  | ret u =>
    obtain ⟨v, σ', H', J, rv, q⟩ := hs
    exact fin J rv q
  | next =>
    obtain ⟨σ', H', J, q⟩ := hs
    exact fin (v := V.non) (u := Value.none) J rfl q
  | brk =>
    obtain ⟨_, _, _, q⟩ := hs
    exact False.elim q
  | cont =>
    obtain ⟨_, _, _, q⟩ := hs
    exact False.elim q
end Sw
namespace Sw
open PySem PySem.Spec PyProof.Rows L2 Evl LamX NdefX
/-! ### promises of defs that may raise -/
section
variable {P : Program} {w : World} {K : PySem.W.Frag} {mg : Str → Option Value} {base : Heap} {CX : CXT} {k : Nat} {f : Addr} {fd : FuncData} {ps : List Str} {sp sp' : Sp}
theorem fn_lift (F : FnOk P w K mg base L2.CX0 k f fd ps sp) : FnOk P w K mg base CX k f fd ps sp := ⟨F.len, fun A outer s H args us vs Q E hr e0 hb r h => codeAny_mono (F.run A outer s H args us vs Q E hr e0 hb r h) fun r s' hq => by
  match r, hq with
  | .error e, hq => exact (show False from hq).elim
  | .ok (.ret u), hq => exact hq
  | .ok .next, hq => exact (show False from hq).elim
  | .ok .brk, hq => exact (show False from hq).elim
  | .ok .cont, hq => exact (show False from hq).elim⟩
def spOr (a b : Sp) : Sp := fun vs H Q E => a vs H Q E ∨ b vs H Q E
theorem fn_or (F : FnOk P w K mg base CX k f fd ps sp) (G : FnOk P w K mg base CX k f fd ps sp') : FnOk P w K mg base CX k f fd ps (spOr sp sp') := ⟨fun vs H Q E h => h.elim (F.len vs H Q E) (G.len vs H Q E), fun A outer s H args us vs Q E hr e0 hb r h => h.elim (F.run A outer s H args us vs Q E hr e0 hb r) (G.run A outer s H args us vs Q E hr e0 hb r)⟩
end
/-! ### a call, within a try, of what goes with an address -/
def tCalS (P : Program) (w : World) (K : PySem.W.Frag) (mg : Str → Option Value) (base : Heap) (CX : CXT) (k i : Nat) (E : L2.St → XK) : TE := fun σ H Q => ∃ f sp S, σ[i]? = some (some (.ref f)) ∧ Cal P w K mg base CX k f sp S ∧ Ex S H ∧ sp [] H Q (E σ)
theorem pe_calS (P : Program) (w : World) (K : PySem.W.Frag) (mg : Str → Option Value) (base : Heap) {X : Cx} {CX : CXT} {i j k : Nat} {x : Str} {E : L2.St → XK} {p pos : Pos} (h1 : X.prog = P) (h2 : X.w = w) (h3 : X.K = K) (h4 : X.mg = mg) (h5 : X.base = base) (hr : Room j X.A) (hk : k ≤ j) (hx : ∀ σ, PassesAt CX X σ (E σ)) (hN : X.N[i]? = some x) (hv : Vis X.env.scope x)
    (hd : (x == ("__debug__" : Str)) = false := by decide) (hcd : (x == ("__classdict__" : Str)) = false := by decide) : PE X (.Call (.Name x p) [] [] pos) (tCalS P w K mg base CX k i E) := by
  subst h1 h2 h3 h4 h5
  refine ⟨fun pins s σ H Q I ⟨f, sp, S, hs, C, eS, q⟩ => ?_⟩
  refine wpAny_Call_Name_kw (thn ((pe_var (pos := p) hN hv hd hcd).run pins s σ H (fun v H1 => v = .ref f ∧ H1 = H) I ⟨.ref f, hs, rfl, rfl⟩) fun u s1 ⟨v, H1, I1, r1, ev, eH⟩ => ?_)
  subst ev eH
  obtain rfl : u = Value.ref f := r1
  refine PySem.W.callWith_F0 (first := []) (lam_fnAt I1 C eS) (wpAny_call (codeAny_mono (C.2 X.A X.stack s1 H1 [] [] Q (E σ) eS (hr.mono hk) I1.env0 .nil q) fun r s' hq => ?_))
  match r, hq with
  | .error e, hq => exact hx σ pins H1 s1 e s' I1 hq
  | .ok (.ret u), hq => exact I1.after hq
  | .ok .next, hq => exact False.elim hq
  | .ok .brk, hq => exact False.elim hq
  | .ok .cont, hq => exact False.elim hq
/-! ### isinstance of the caught exception -/
structure ExI (K : PySem.W.Frag) (C : Addr) : Prop where
  cl : (PySem.W.clsIn K C).isSome = true
  ga : PySem.W.findIn K (.ref C) "__getattribute__" = some (some (.builtin "BaseException.__getattribute__"))
  gg : PySem.W.findIn K (.ref C) "__getattr__" = some none
  ex : PySem.W.subIn K (.ref C) (.type "BaseException") = some true
  hd : PySem.W.hasDictIn K C = true
  ca : PySem.W.findIn K (.ref C) "__class__" = some (some (.builtin "object.__class__"))
  cg : PySem.W.specialIn K (.builtin "object.__class__") "__get__" = some (some (.builtin "getset_descriptor.__get__"))
  ct : PySem.W.takesIn K (.builtin "object.__class__") = some true
  mo : PySem.W.mroIn K C (.type "object") = some true
theorem ExI.xf {K : PySem.W.Frag} {C : Addr} (T : ExI K C) : XfC K C := ⟨T.ga, T.gg, T.ex, T.hd⟩
def rIsX (K : PySem.W.Frag) (a : Addr) (cls : Value) (d : Option Addr) : List V → Hp → VK → Prop := fun xs H Q => ∃ (D : Addr) (c : V) (cv : Value) (b : Bool), cls = .ref D ∧ ExI K D ∧ xs = [.ref a, c] ∧ (∀ u, RelV c u → u = cv) ∧ PySem.W.kitOne K (.ref D) cv = some b ∧ (∀ dd, d = some dd → ∃ fs, H dd = some (.xd fs)) ∧ Q (.bl b) H
theorem call_isX {X : Cx} (K : PySem.W.Frag) (hK : X.K = K) {a : Addr} {cls : Value} {d : Option Addr} {oe : Obj} {pn : List (Addr × Obj)} (hz : Zc cls d oe) (hf : ∃ vs, oe.data = .fields vs) : CallR (X.suite a ((a, oe) :: pn)) (.builtin "isinstance") (rIsX K a cls d) := by
  subst hK
  intro pins s σ H xs us Q I r h
  obtain ⟨D, c, cv, b, rfl, T, rfl, hcv, e, hd, q⟩ := h
  cases r with
  | cons rx rr =>
    cases rr with
    | cons rt rr =>
      cases rr
      cases rx
      have ec := hcv _ rt
      subst ec
      have hget := (I.pin (a, oe) (List.mem_append.mpr (.inl List.mem_cons_self))).1
      obtain ⟨fv, hv⟩ := hf
      obtain ⟨oc, od, oda, osl⟩ := oe
      obtain ⟨z1, z2⟩ := hz
      dsimp only at z1 z2 hv
      subst z1 z2 hv
      have go : ∀ o2, PySem.W.InstAt s.heap a ⟨.ref D, od, .fields fv, osl⟩ D o2 → wpAny (model X.prog X.w) (X.suite a ((a, ⟨.ref D, od, .fields fv, osl⟩) :: pn)).A (call (.builtin "isinstance") [.ref a, _]) (EP (X.suite a ((a, ⟨.ref D, od, .fields fv, osl⟩) :: pn)) pins σ Q) (X.suite a ((a, ⟨.ref D, od, .fields fv, osl⟩) :: pn)).xe s := fun o2 J =>
        PySem.W.kia_one (PySem.W.kitx_exc T.cl T.ga T.gg T.ex T.ca T.cg T.ct T.mo) I.kIn J e (fun z => nomatch z) fun tk => ⟨.bl b, H, I.kept (t' := tk) fun _ _ z => z, rfl, q⟩
      cases od with
      | none => exact go none ⟨hget, rfl, rfl, trivial⟩
      | some dd =>
        obtain ⟨fs, hfs⟩ := hd dd rfl
        obtain ⟨mA, hns, _⟩ := (I.hok dd _ hfs : ObjOk _ _ _ _ dd (.xd fs))
        obtain ⟨o, es, ep, ho, _⟩ := hns
        exact go (some o) ⟨hget, rfl, rfl, ho⟩
theorem ev_isX {K : PySem.W.Frag} {σ : L2.St} {H : Hp} {te tc : TE} {a D dd : Addr} {c : V} {cv : Value} {b : Bool} {fs : List (Str × V)} (T : ExI K D) (he : Ev te σ H (.ref a)) (hc : Ev tc σ H c) (hcv : ∀ u, RelV c u → u = cv) (hb : PySem.W.kitOne K (.ref D) cv = some b) (hd : H dd = some (.xd fs)) :
    Ev (tCB (rIsX K a (.ref D) (some dd)) (tCons te (tCons tc tNil))) σ H (.bl b) := fun H1 e Q q => he H1 e _ fun H2 e2 => hc H2 (e.trans e2) _ fun H3 e3 => ⟨D, c, cv, b, rfl, T, rfl, hcv, hb, fun d1 z => by cases z; exact ⟨fs, e3 _ _ (e2 _ _ (e _ _ hd))⟩, q H3 (e2.trans e3)⟩
/-! ### count and index of flat items -/
theorem eq_count {y : V} : ∀ {ys : List V} {us : List Value}, Vals ys us → ys.all flatV = true → us.countP (eqU y) = ys.countP (fun z => eqV z y)
  | _, _, .nil, _ => rfl
  | _, _, .cons (a := z) (b := u) r rs, f => by
    rw [List.all_cons, Bool.and_eq_true] at f
    rw [List.countP_cons, List.countP_cons, eq_count rs f.2, eqU_of r f.1]
def rCntF (K : PySem.W.Frag) : V → List V → Hp → VK → Prop := fun x xs H Q => ∃ (p : Addr) (ys : List V) (y : V), x = .ref p ∧ xs = [y] ∧ SqL K H p ys ∧ flatV y = true ∧ ys.all flatV = true ∧ Q (.int (ys.countP (fun z => eqV z y) : Nat)) H
theorem mt_lcountF {X : Cx} (K : PySem.W.Frag) (hK : X.K = K) : MtR X "list.count" (rCntF K) := by
  subst hK
  intro pins s σ H x xs v us Q I rx rxs ⟨p, ys, y, ex, exs, hs, fy, fys, q⟩
  subst ex exs
  cases rx
  obtain ⟨uy, rfl, ry⟩ := rxs.one
  obtain ⟨its, rv, ⟨⟨cls, dd, data, sl⟩, n, ho, hc, hdn, hd⟩, hlen⟩ := I.list hs
  simp only at hc hd
  subst hc hd
  refine call_meets PySem.F.slot_list_count ⟨_, ho, rfl⟩ PySem.F.entry_list_count (PySem.F.args_list_count_2 _ _) (SeqAt.list_countAt p its.toArray n dd sl uy (eqU y)) ⟨ho, fun u hu => mem_eqAt ry fy rv fys u (by simpa using hu), ?_⟩
  refine ⟨.int (ys.countP (fun z => eqV z y) : Nat), H, I.tok _, ⟨s.toks, ?_⟩, q⟩
  show Value.int ((its.toArray.toList.countP (eqU y) : Nat) : Int) s.toks = Value.int ((ys.countP (fun z => eqV z y) : Nat) : Int) s.toks
  rw [show its.toArray.toList = its from rfl, eq_count rv fys]
theorem mt_indexK {X : Cx} (K : PySem.W.Frag) (hK : X.K = K) : MtR X "list.index" (rIndex K) := by
  subst hK; exact mt_index
theorem pe_bmK {X : Cx} (K : PySem.W.Frag) {o e : Expr} {es : List Expr} {to : TE} {t : TA} {name : Str} {apos cpos : Pos} {Ty id : String} {r : V → List V → Hp → VK → Prop} (hK : X.K = K) (pa : PlainAttrs Ty) (slot : Slot Ty name id) (hty : typeOf (.builtin id) = pure (.type "method_descriptor")) (hm : MtR X id r) (ho : PE X o to) (ha : PA X (e :: es) t)
    (hbase : attributeBase o name X.env (eval o X.env) = eval o X.env := by rfl)
    (hfew : ((backTo cpos (starEach (e :: es) X.env)).all (fun x => !x.1) && (backToKw cpos (keywordEach [] X.env)).all (fun x => x.1.isSome) && decide ((e :: es).length + ([] : List Keyword).length + (if ([] : List Keyword).isEmpty then 0 else 1) < 30)) = true := by rfl)
    (hline : (apos.endLine == cpos.line) = true := by rfl) (hs : starEach (e :: es) X.env = (false, eval e X.env) :: starEach es X.env := by rfl) (hplain : (backTo cpos (starEach es X.env)).any (·.1) = false := by rfl) : PE X (.Call (.Attribute o name apos) (e :: es) [] cpos) (tBM K Ty r to t) := by
  subst hK; exact pe_bm pa slot hty hm ho ha hbase hfew hline hs hplain
end Sw
namespace Sw
open PySem PySem.Spec PyProof.Rows L2 Evl
theorem fnR_of {P : Program} {w : World} {K : PySem.W.Frag} {mg : Str → Option Value} {base : Heap} {CX : CXT} {k : Nat} {f : Addr} {fd : FuncData} {ps : List Str} {sp : Sp} (F : FnOk P w K mg base CX k f fd ps sp) (hb : Binds K fd ps []) : FnR P w K mg base CX k f sp :=
  (F.raw hb .nil).imp fun vs H Q E h => by rw [List.append_nil]; exact h
end Sw
namespace Sw
open PySem PySem.Spec PyProof.Rows L2 Evl LamX NdefX
/-! ### signs of own classes: a + b, a * n, a == b, a != b -/
/-- what of the text a class with own signs must have -/
structure OwnC (K : PySem.W.Frag) (C : Addr) : Prop where
  sf : PySem.W.selfFirst K C = true
  ne : PySem.W.findIn K (.ref C) "__ne__" = some (some (.builtin "object.__ne__"))
  ob : PySem.W.mroIn K C (.type "object") = some true
  tu : PySem.W.subIn K (.type "tuple") (.ref C) = some false
  it : PySem.W.subIn K (.type "int") (.ref C) = some false
  rm : PySem.W.findIn K (.ref C) "__rmul__" = some none
  kt : PySem.W.kitOne K (.type "tuple") (.ref C) = some false
  ty : PySem.W.kitOne K (.ref C) (.type "tuple") = some false
/-- a value that a def gives is never NotImplemented -/
theorem back_of {P : Value → Shared → Prop} {z : V} {v : Value} {s' : Shared} (r : RelV z v) (h : P v s') : PySem.W.CmpBack P v s' := by
  cases z with
  | non => cases r; exact h
  | bl b => cases r; exact h
  | int i => obtain ⟨t, rfl⟩ := r; exact h
  | str x => obtain ⟨t, rfl⟩ := r; exact h
  | byt b => obtain ⟨t, rfl⟩ := r; exact h
  | flt b => obtain ⟨t, rfl⟩ := r; exact h
  | ref a => cases r; exact h
  | ty n => cases r; exact h
/-! #### `!=` where only == is written -/
section
variable {prog : Program} {w : World} {A : Around} {E : Value → Shared → Prop} {s : Shared} {K : PySem.W.Frag} {x C f : Addr} {ox : Obj} {od : Option Obj} {b tb : Value}
theorem ne_body (hu : A.units < cLine) (X : K.In s.heap) (I : PySem.W.InstAt s.heap x ox C od) (he : PySem.W.findIn K (.ref C) "__eq__" = some (some (.ref f))) (hf : PySem.W.isFn K (.ref f) = true) {Q : Fin → Shared → Prop}
    (h : wpAny (model prog w) A (call (.ref f) [.ref x, b]) (fun v s' => ∃ k, v = .bool k ∧ Q (.done (.ret (.bool (!k)))) s') E s) : wpAny (model prog w) A (Builtin.«object.__ne__» ⟨[.ref x, b], []⟩) Q E s := by
  unfold Builtin.«object.__ne__»
  repeat (first
    | with_reducible refine wpAny_cRoomFor hu ?_
    | (refine wpAny_bind (m := callSpecialIfBound? (.ref x) (Str.ofString "__eq__") [b]) (PySem.W.ifBound_K X I he hf (wpAny_mono h (fun r s' hr => by
          obtain ⟨k, rfl, hq⟩ := hr
          repeat (first | exact hq | exact wpAny_pure hq | exact wpAny_truthy_bool hq | (refine wpAny_bind (m := truthy (.bool _)) (wpAny_truthy_bool ?_)) | wp_step)) fun _ _ e => e)))
    | wp_step)
theorem ne_bound {args : List Value} {Q : Option Value → Shared → Prop} (X : K.In s.heap) (I : PySem.W.InstAt s.heap x ox C od) (hs : PySem.W.findIn K (.ref C) "__ne__" = some (some (.builtin "object.__ne__")))
    (h : wpAny (model prog w) A (call (.builtin "object.__ne__") (.ref x :: args)) (fun v => Q (some v)) E s) : wpAny (model prog w) A (callSpecialIfBound? (.ref x) "__ne__" args) Q E s := by
  simp only [callSpecialIfBound?, bindSpecialIfBound?]
  apply wpAny_holding
  apply wpAny_bind; apply wpAny_bind; apply wpAny_bind
  refine I.type.here ((PySem.W.looks_findIn X hs).here ?_)
  apply wpAny_bind; apply wpAny_askSetting; apply wpAny_ite
  have last : wpAny (model prog w) A (call (.builtin "object.__ne__") ([.ref x] ++ args) >>= fun v => pure (some v)) Q E s := wpAny_bind (wpAny_mono h (fun _ _ z => wpAny_pure z) fun _ _ z => z)
  split
  · exact wpAny_bind (wpAny_of_eq (F.cmp_object.ne.bind _) (wpAny_pure (by exact last)))
  · exact wpAny_tryCatch (wpAny_bind (wpAny_of_eq (F.cmp_object.ne.bind _) (wpAny_pure (by exact last))))
theorem ne_K {Q : Value → Shared → Prop} (hu : A.units + 1 < cLine) (X : K.In s.heap) (I : PySem.W.InstAt s.heap x ox C od) (hb : PySem.W.Looks (model prog w) s.heap (typeOf b) tb) (hn : PySem.W.notFirst K C tb = true) (c : OwnC K C)
    (he : PySem.W.findIn K (.ref C) "__eq__" = some (some (.ref f))) (hf : PySem.W.isFn K (.ref f) = true) (h : wpAny (model prog w) A.in1 (call (.ref f) [.ref x, b]) (fun v s' => ∃ k, v = .bool k ∧ Q (.bool (!k)) s') E s) :
    wpAny (model prog w) A (richCompare .NotEq (.ref x) b) Q E s := by
  have one : wpAny (model prog w) A (tryCompare (.ref x) (cmpInfo .NotEq).2.1 b) (fun r s' => ∃ v, r = some v ∧ Q v s') E s := by
    unfold tryCompare
    refine wpAny_bind (ne_bound X I c.ne (wpAny_call (codeAny_call_builtin F.cmp_object.ne.plain F.cmpEntry_ne (PySem.W.check_slot F.cmpKind_ne F.cmpSplit_ne (I.type.andThen (PySem.W.looks_mroIn X c.ob)) (F.cmpArgs_ne _ _)
      (ne_body (A := A.in1) hu X I he hf (wpAny_mono h (fun v s' z => ?_) fun _ _ e => e))))))
    obtain ⟨k, rfl, q⟩ := z
    exact ⟨k, rfl, wpAny_pure ⟨_, rfl, q⟩⟩
  unfold richCompare
  simp only [oneThing_ref]
  refine wpAny_holding (wpAny_bind (wpAny_cRoomFor (Nat.lt_of_succ_lt hu) ?_))
  refine wpAny_bind (I.type.here (wpAny_bind (hb.here ?_)))
  have fin : wpAny (model prog w) A (tryCompare (.ref x) (cmpInfo .NotEq).2.1 b) (fun r s' => ∃ v, r = some v ∧ Q v s') E s := one
  split
  · rename_i q
    have e : PySem.W.subIn K tb (.ref C) = some false := by
      rcases Bool.or_eq_true_iff.mp hn with e | e
      · rw [beq_iff_eq.mp e] at q; simp at q
      · exact beq_iff_eq.mp e
    refine wpAny_bind ((PySem.W.looks_subIn X e).here ?_)
    rw [if_neg Bool.false_ne_true]
    refine wpAny_bind (wpAny_mono fin (fun r s' z => ?_) fun _ _ e => e)
    obtain ⟨v, rfl, hq⟩ := z
    exact wpAny_pure hq
  · refine wpAny_bind (wpAny_pure ?_)
    rw [if_neg Bool.false_ne_true]
    refine wpAny_bind (wpAny_mono fin (fun r s' z => ?_) fun _ _ e => e)
    obtain ⟨v, rfl, hq⟩ := z
    exact wpAny_pure hq
end
section
variable {X : Cx} {CX : CXT} {C g : Addr} {n : Nat} {sp : Sp} {E : XK}
/-- x op y by x's own def, y of the same class; x op i, i a number; x == y, y of the same class or a tuple -/
def rOwnB (C : Addr) (sp : Sp) (E : XK) : R2 := fun x y H Q => ∃ a b dx dy fs gs, x = .ref a ∧ y = .ref b ∧ H a = some (.ins C dx fs) ∧ H b = some (.ins C dy gs) ∧ sp [x, y] H Q E
def rOwnI (C : Addr) (sp : Sp) (E : XK) : R2 := fun x y H Q => ∃ a i dx fs, x = .ref a ∧ y = .int i ∧ H a = some (.ins C dx fs) ∧ sp [x, y] H Q E
def rOwnE (K : PySem.W.Frag) (C : Addr) (sp : Sp) (E : XK) : R2 := fun x y H Q => ∃ a b dx fs, x = .ref a ∧ y = .ref b ∧ H a = some (.ins C dx fs) ∧ ((∃ dy gs, H b = some (.ins C dy gs)) ∨ ∃ ys, SqT K H b ys) ∧ sp [x, y] H Q E
def rOwnN (K : PySem.W.Frag) (C : Addr) (sp : Sp) (E : XK) : R2 := fun x y H Q => ∃ a b dx fs, x = .ref a ∧ y = .ref b ∧ H a = some (.ins C dx fs) ∧ ((∃ dy gs, H b = some (.ins C dy gs)) ∨ ∃ ys, SqT K H b ys) ∧ sp [x, y] H (fun v H' => ∃ k, v = .bl k ∧ Q (.bl (!k)) H') E
theorem own_at {A : Around} {pins : List (Addr × Obj)} {σ : L2.St} {H : Hp} {s : Shared} {Q : VK} {us : List Value} {ws : List V} (F : FnR X.prog X.w X.K X.mg X.base CX n g sp) (hr : Room n A) (e0 : Env0 X.prog X.w X.K X.mg X.base A X.stack s H) (hx : Passes CX X E) (I : Inv X pins σ H s) (r : Vals ws us) (h : sp ws H Q E) :
    codeAny (model X.prog X.w) A (.call (.ref g) ⟨us, []⟩) (fun r s' => match r with | .ok (.ret v) => EP X pins σ Q v s' | .ok _ => False | .error e => X.xe e s') s := by
  refine codeAny_mono (F A X.stack s H us ws Q E hr e0 r h) fun r s' z => ?_
  match r, z with
  | .error e, z => exact hx pins σ H s e s' I z
  | .ok (.ret u), z => exact I.after z
  | .ok .next, z => exact False.elim z
  | .ok .brk, z => exact False.elim z
  | .ok .cont, z => exact False.elim z
theorem ins_at {pins : List (Addr × Obj)} {σ : L2.St} {H : Hp} {s : Shared} {a dx : Addr} {fs : List (Str × V)} (I : Inv X pins σ H s) (h : H a = some (.ins C dx fs)) : ∃ ox od, PySem.W.InstAt s.heap a ox C od := by
  obtain ⟨mA, O, _⟩ := ins_get I.hok h
  obtain ⟨od, J, _⟩ := O.look
  exact ⟨_, _, J⟩
theorem op_ownB {op : Operator} (c : OwnC X.K C) (hs : PySem.W.findIn X.K (.ref C) (PySem.dunder op.info.2) = some (some (.ref g))) (hf : PySem.W.isFn X.K (.ref g) = true) (F : FnR X.prog X.w X.K X.mg X.base CX n g sp) (hr : Room n X.A) (hx : Passes CX X E) : OpR X (binaryOp op) (rOwnB C sp E) := by
  intro pins s σ H x y v u Q I rx ry h
  obtain ⟨a, b, dx, dy, fs, gs, rfl, rfl, ha, hb, q⟩ := h
  cases rx; cases ry
  obtain ⟨ox, od, J⟩ := ins_at I ha
  obtain ⟨ox', od', J'⟩ := ins_at I hb
  obtain ⟨m, hF⟩ := I.fr
  refine PySem.W.binop_K hF I.ok.mod.kin J J'.type c.sf hs hf ?_
  refine wpAny_mono (wpAny_call (own_at (us := [.ref a, .ref b]) (ws := [.ref a, .ref b]) F hr I.env0 hx I (.cons rfl (.cons rfl .nil)) q)) (fun w s' z => ?_) fun _ _ z => z
  obtain ⟨z', H', I', rz, qz⟩ := z
  exact back_of rz ⟨z', H', I', rz, qz⟩
theorem op_ownMul (c : OwnC X.K C) (hs : PySem.W.findIn X.K (.ref C) "__mul__" = some (some (.ref g))) (hf : PySem.W.isFn X.K (.ref g) = true) (F : FnR X.prog X.w X.K X.mg X.base CX n g sp) (hr : Room n X.A) (hx : Passes CX X E) : OpR X (binaryOp .Mult) (rOwnI C sp E) := by
  intro pins s σ H x y v u Q I rx ry h
  obtain ⟨a, i, dx, fs, rfl, rfl, ha, q⟩ := h
  cases rx; obtain ⟨t, rfl⟩ := ry
  obtain ⟨ox, od, J⟩ := ins_at I ha
  obtain ⟨m, hF⟩ := I.fr
  have d1 : PySem.dunder (Operator.info .Mult).2 = "__mul__" := by decide +kernel
  have d2 : dunderR (Operator.info .Mult).2 = "__rmul__" := by decide +kernel
  refine PySem.W.ksp_binT (T := "int") (fo := some (.builtin "int.__mul__")) (ro := some (.builtin "int.__rmul__")) (rc := none) hF I.ok.mod.kin J rfl c.sf (by rw [d1]; exact hs) hf (by rw [d2]; exact c.rm) (.inl rfl) (by rw [d1]; show fastLookup "int" "__mul__" = _; decide +kernel) (by rw [d2]; show fastLookup "int" "__rmul__" = _; decide +kernel) c.it ?_
  refine wpAny_mono (wpAny_call (own_at (us := [.ref a, .int i t]) (ws := [.ref a, .int i]) F hr I.env0 hx I (.cons rfl (.cons ⟨t, rfl⟩ .nil)) q)) (fun w s' z => ?_) fun _ _ z => z
  obtain ⟨z', H', I', rz, qz⟩ := z
  exact back_of rz ⟨z', H', I', rz, qz⟩
/-- the type of the right side -/
theorem rhs_ty {pins : List (Addr × Obj)} {σ : L2.St} {H : Hp} {s : Shared} {b : Addr} (c : OwnC X.K C) (I : Inv X pins σ H s) (h : (∃ dy gs, H b = some (.ins C dy gs)) ∨ ∃ ys, SqT X.K H b ys) : ∃ tb, PySem.W.Looks (model X.prog X.w) s.heap (typeOf (.ref b)) tb ∧ PySem.W.notFirst X.K C tb = true := by
  rcases h with ⟨dy, gs, h⟩ | ⟨ys, h⟩
  · obtain ⟨ox, od, J⟩ := ins_at I h
    exact ⟨_, J.type, by simp [PySem.W.notFirst]⟩
  · obtain ⟨its, _, ⟨o, e, hc, _⟩, _⟩ := I.tuple h
    refine ⟨.type "tuple", hc ▸ (PySem.W.Looks.ld e).andThen .now, ?_⟩
    unfold PySem.W.notFirst
    rw [c.tu]; simp
theorem op_ownEq (c : OwnC X.K C) (hs : PySem.W.findIn X.K (.ref C) "__eq__" = some (some (.ref g))) (hf : PySem.W.isFn X.K (.ref g) = true) (F : FnR X.prog X.w X.K X.mg X.base CX n g sp) (hr : Room n X.A) (hx : Passes CX X E) : OpR X (compareOp .Eq) (rOwnE X.K C sp E) := by
  intro pins s σ H x y v u Q I rx ry h
  obtain ⟨a, b, dx, fs, rfl, rfl, ha, hb, q⟩ := h
  cases rx; cases ry
  obtain ⟨ox, od, J⟩ := ins_at I ha
  obtain ⟨tb, L, nf⟩ := rhs_ty c I hb
  obtain ⟨m, hF⟩ := I.fr
  show wpAny (model X.prog X.w) X.A (richCompare .Eq (.ref a) (.ref b)) (EP X pins σ Q) X.xe s
  refine PySem.W.cmp_K (op := .Eq) hr.units0 hF I.ok.mod.kin J L nf hs hf ?_
  refine wpAny_mono (wpAny_call (own_at (us := [.ref a, .ref b]) (ws := [.ref a, .ref b]) F hr I.env0 hx I (.cons rfl (.cons rfl .nil)) q)) (fun w s' z => ?_) fun _ _ z => z
  obtain ⟨z', H', I', rz, qz⟩ := z
  exact back_of rz ⟨z', H', I', rz, qz⟩
theorem op_ownNe (c : OwnC X.K C) (hs : PySem.W.findIn X.K (.ref C) "__eq__" = some (some (.ref g))) (hf : PySem.W.isFn X.K (.ref g) = true) (F : FnR X.prog X.w X.K X.mg X.base CX n g sp) (hr : Room (n + 1) X.A) (hx : Passes CX X E) : OpR X (compareOp .NotEq) (rOwnN X.K C sp E) := by
  intro pins s σ H x y v u Q I rx ry h
  obtain ⟨a, b, dx, fs, rfl, rfl, ha, hb, q⟩ := h
  cases rx; cases ry
  obtain ⟨ox, od, J⟩ := ins_at I ha
  obtain ⟨tb, L, nf⟩ := rhs_ty c I hb
  have hu := hr.units
  show wpAny (model X.prog X.w) X.A (richCompare .NotEq (.ref a) (.ref b)) (EP X pins σ Q) X.xe s
  refine ne_K (by omega) I.kIn J L nf c hs hf ?_
  refine wpAny_mono (wpAny_call (own_at (us := [.ref a, .ref b]) (ws := [.ref a, .ref b]) F hr.in1 I.env0.in1 hx I (.cons rfl (.cons rfl .nil)) q)) (fun w s' z => ?_) fun _ _ z => z
  obtain ⟨z', H', I', rz, k, ez, qz⟩ := z
  subst ez
  cases rz
  exact ⟨k, rfl, .bl (!k), H', I', rfl, qz⟩
end
end Sw
namespace Sw
open PySem PySem.Spec PyProof.Rows L2 Evl
def topS (i : Nat) : Stmt := PySem.Challenge.pw_staleloaves_k43_signs_of_prices.main.body.getD i (.Pass ⟨0, 0, 0, 0⟩)
abbrev s_InvalidPrices___init__ : Stmt := inClass (topS 2) 0
abbrev n_InvalidPrices___init__ : List Str := ["self", "part", "__class__"]
abbrev p_InvalidPrices___init__ : List Str := ["self", "part"]
theorem sc_InvalidPrices___init__ : NdefX.NScope n_InvalidPrices___init__ p_InvalidPrices___init__ ["__class__"] (defScope s_InvalidPrices___init__) := NdefX.nscope_by (by decide +kernel)
abbrev s_check_price : Stmt := topS 5
abbrev n_check_price : List Str := ["part", "cents"]
abbrev p_check_price : List Str := ["part", "cents"]
theorem sc_check_price : FnScope n_check_price p_check_price (defScope s_check_price) := ⟨rfl, rfl, rfl, by decide +kernel, rfl, by decide +kernel, by decide +kernel⟩
abbrev s_Prices___init__ : Stmt := inClass (topS 6) 0
abbrev n_Prices___init__ : List Str := ["self", "sale", "cost", "waste"]
abbrev p_Prices___init__ : List Str := ["self", "sale", "cost", "waste"]
theorem sc_Prices___init__ : FnScope n_Prices___init__ p_Prices___init__ (defScope s_Prices___init__) := ⟨rfl, rfl, rfl, by decide +kernel, rfl, by decide +kernel, by decide +kernel⟩
abbrev s_Prices_cents : Stmt := inClass (topS 6) 1
abbrev n_Prices_cents : List Str := ["self"]
abbrev p_Prices_cents : List Str := ["self"]
theorem sc_Prices_cents : FnScope n_Prices_cents p_Prices_cents (defScope s_Prices_cents) := ⟨rfl, rfl, rfl, by decide +kernel, rfl, by decide +kernel, by decide +kernel⟩
abbrev s_Prices___call__ : Stmt := inClass (topS 6) 2
abbrev n_Prices___call__ : List Str := ["self", "baked", "sold", "thrown", "sale", "cost", "waste"]
abbrev p_Prices___call__ : List Str := ["self", "baked", "sold", "thrown"]
theorem sc_Prices___call__ : FnScope n_Prices___call__ p_Prices___call__ (defScope s_Prices___call__) := ⟨rfl, rfl, rfl, by decide +kernel, rfl, by decide +kernel, by decide +kernel⟩
abbrev s_Prices___add__ : Stmt := inClass (topS 6) 3
abbrev n_Prices___add__ : List Str := ["self", "other", "sale", "cost", "waste", "more_sale", "more_cost", "more_waste"]
abbrev p_Prices___add__ : List Str := ["self", "other"]
theorem sc_Prices___add__ : FnScope n_Prices___add__ p_Prices___add__ (defScope s_Prices___add__) := ⟨rfl, rfl, rfl, by decide +kernel, rfl, by decide +kernel, by decide +kernel⟩
abbrev s_Prices___mul__ : Stmt := inClass (topS 6) 4
abbrev n_Prices___mul__ : List Str := ["self", "times", "sale", "cost", "waste"]
abbrev p_Prices___mul__ : List Str := ["self", "times"]
theorem sc_Prices___mul__ : FnScope n_Prices___mul__ p_Prices___mul__ (defScope s_Prices___mul__) := ⟨rfl, rfl, rfl, by decide +kernel, rfl, by decide +kernel, by decide +kernel⟩
abbrev s_Prices___eq__ : Stmt := inClass (topS 6) 5
abbrev n_Prices___eq__ : List Str := ["self", "other"]
abbrev p_Prices___eq__ : List Str := ["self", "other"]
theorem sc_Prices___eq__ : FnScope n_Prices___eq__ p_Prices___eq__ (defScope s_Prices___eq__) := ⟨rfl, rfl, rfl, by decide +kernel, rfl, by decide +kernel, by decide +kernel⟩
abbrev s__law_start : Stmt := topS 8
abbrev n__law_start : List Str := ["_law_script", "_law_mixed", "_law_cell"]
abbrev p__law_start : List Str := ["_law_script"]
theorem sc__law_start : FnScope n__law_start p__law_start (defScope s__law_start) := ⟨rfl, rfl, rfl, by decide +kernel, rfl, by decide +kernel, by decide +kernel⟩
abbrev s__law_drawn : Stmt := topS 9
abbrev n__law_drawn : List Str := ["_law_state", "_law_count", "_law_result", "_law_cell"]
abbrev p__law_drawn : List Str := ["_law_state", "_law_count"]
theorem sc__law_drawn : FnScope n__law_drawn p__law_drawn (defScope s__law_drawn) := ⟨rfl, rfl, rfl, by decide +kernel, rfl, by decide +kernel, by decide +kernel⟩
abbrev s__law_same : Stmt := topS 10
abbrev n__law_same : List Str := ["_law_result", "_law_expected", "_law_k"]
abbrev p__law_same : List Str := ["_law_result", "_law_expected"]
theorem sc__law_same : FnScope n__law_same p__law_same (defScope s__law_same) := ⟨rfl, rfl, rfl, by decide +kernel, rfl, by decide +kernel, by decide +kernel⟩
abbrev s__law_outcome : Stmt := topS 11
abbrev n__law_outcome : List Str := ["_law_work", "e"]
abbrev p__law_outcome : List Str := ["_law_work"]
theorem sc__law_outcome : FnScope n__law_outcome p__law_outcome (defScope s__law_outcome) := ⟨rfl, rfl, rfl, by decide +kernel, rfl, by decide +kernel, by decide +kernel⟩
abbrev s__law_fault : Stmt := topS 12
abbrev n__law_fault : List Str := ["_law_cents", "_law_k"]
abbrev p__law_fault : List Str := ["_law_cents"]
theorem sc__law_fault : FnScope n__law_fault p__law_fault (defScope s__law_fault) := ⟨rfl, rfl, rfl, by decide +kernel, rfl, by decide +kernel, by decide +kernel⟩
abbrev s__law_agrees : Stmt := topS 13
abbrev n__law_agrees : List Str := ["_law_found", "_law_cents", "_law_expected"]
abbrev p__law_agrees : List Str := ["_law_found", "_law_cents"]
theorem sc__law_agrees : FnScope n__law_agrees p__law_agrees (defScope s__law_agrees) := ⟨rfl, rfl, rfl, by decide +kernel, rfl, by decide +kernel, by decide +kernel⟩
abbrev s_law : Stmt := topS 14
abbrev n_law : List Str := ["_law_script", "_law_state", "_law_turn", "_law_high", "_law_one", "_law_other", "_law_baked", "_law_sold", "_law_thrown", "_law_a", "_law_b", "_law_times", "_law_wrong", "_law_k", "_law_price"]
abbrev p_law : List Str := ["_law_script"]
theorem sc_law : FnScope n_law p_law (defScope s_law) := ⟨rfl, rfl, rfl, by decide +kernel, rfl, by decide +kernel, by decide +kernel⟩
structure Ad where
  c_Prices : Addr
  mc_Prices : Value
  pr_Prices_cents : Addr
  t_MOST_CENTS : Tok
  f_InvalidPrices___init__ : Addr
  d_InvalidPrices___init__ : FuncData
  f_check_price : Addr
  d_check_price : FuncData
  f_Prices___init__ : Addr
  d_Prices___init__ : FuncData
  f_Prices_cents : Addr
  d_Prices_cents : FuncData
  f_Prices___call__ : Addr
  d_Prices___call__ : FuncData
  f_Prices___add__ : Addr
  d_Prices___add__ : FuncData
  f_Prices___mul__ : Addr
  d_Prices___mul__ : FuncData
  f_Prices___eq__ : Addr
  d_Prices___eq__ : FuncData
  f__law_start : Addr
  d__law_start : FuncData
  f__law_drawn : Addr
  d__law_drawn : FuncData
  f__law_same : Addr
  d__law_same : FuncData
  f__law_outcome : Addr
  d__law_outcome : FuncData
  f__law_fault : Addr
  d__law_fault : FuncData
  f__law_agrees : Addr
  d__law_agrees : FuncData
  f_law : Addr
  d_law : FuncData
  k_law : Addr
  tb_law : Addr
  P : Program
  c_LoafError : Addr
  c_InvalidPrices : Addr
  k_InvalidPrices___init__ : Addr
  cc_InvalidPrices___init__ : Addr
structure Txt (K : PySem.W.Frag) (mg : Str → Option Value) (Z : Ad) : Prop where
  cl_Prices : Cls K Z.c_Prices
  g_Prices : mg "Prices" = some (.ref Z.c_Prices)
  mk_Prices : Mk K Z.c_Prices Z.f_Prices___init__
  na_Prices__cents : NoAttr K Z.c_Prices "_cents"
  g_MOST_CENTS : mg "MOST_CENTS" = some (.int 1000000 Z.t_MOST_CENTS)
  b_bool : mg "bool" = none
  b_int : mg "int" = none
  b_isinstance : mg "isinstance" = none
  b_len : mg "len" = none
  b_list : mg "list" = none
  b_range : mg "range" = none
  b_super : mg "super" = none
  b_tuple : mg "tuple" = none
  g_LoafError : mg "LoafError" = some (.ref Z.c_LoafError)
  g_InvalidPrices : mg "InvalidPrices" = some (.ref Z.c_InvalidPrices)
  ox_InvalidPrices : OexC K Z.c_InvalidPrices
  xi_InvalidPrices : PySem.W.findIn K (.ref Z.c_InvalidPrices) "__init__" = some (some (.ref Z.f_InvalidPrices___init__))
  xt_InvalidPrices : PySem.W.typeIn K (.ref Z.f_InvalidPrices___init__) = some (.type "function")
  xs_InvalidPrices : SupF Z.P K "InvalidPrices.__init__" s_InvalidPrices___init__ Z.f_InvalidPrices___init__ Z.d_InvalidPrices___init__ Z.k_InvalidPrices___init__ Z.cc_InvalidPrices___init__ Z.c_InvalidPrices
  xI_InvalidPrices : ExI K Z.c_InvalidPrices
  xm_InvalidPrices : PySem.W.exmOne K (.ref Z.c_InvalidPrices) (.ref Z.c_LoafError) = some true
  xv_InvalidPrices : PySem.W.kitOne K (.ref Z.c_InvalidPrices) (.type "ValueError") = some true
  xk_InvalidPrices_InvalidPrices : PySem.W.kitOne K (.ref Z.c_InvalidPrices) (.ref Z.c_InvalidPrices) = some true
  na_InvalidPrices_part : PySem.W.findIn K (.ref Z.c_InvalidPrices) "part" = some none
  b_InvalidPrices___init__ : Binds K Z.d_InvalidPrices___init__ p_InvalidPrices___init__ []
  xn_InvalidPrices_InvalidPrices : PySem.W.exmOne K (.ref Z.c_InvalidPrices) (.ref Z.c_InvalidPrices) = some true
  co_Prices : StX.CallO K Z.c_Prices Z.f_Prices___call__
  ow_Prices : OwnC K Z.c_Prices
  in_Prices : C8.InsC K Z.c_Prices
  F_check_price : Fun K "check_price" "check_price" s_check_price Z.f_check_price Z.d_check_price
  b_check_price : Binds K Z.d_check_price p_check_price []
  g_check_price : mg "check_price" = some (.ref Z.f_check_price)
  F_Prices___init__ : Fun K "__init__" "Prices.__init__" s_Prices___init__ Z.f_Prices___init__ Z.d_Prices___init__
  b_Prices___init__ : Binds K Z.d_Prices___init__ p_Prices___init__ []
  F_Prices_cents : Fun K "cents" "Prices.cents" s_Prices_cents Z.f_Prices_cents Z.d_Prices_cents
  b_Prices_cents : Binds K Z.d_Prices_cents p_Prices_cents []
  pp_Prices_cents : PropOf K Z.c_Prices "cents" Z.pr_Prices_cents Z.f_Prices_cents
  F_Prices___call__ : Fun K "__call__" "Prices.__call__" s_Prices___call__ Z.f_Prices___call__ Z.d_Prices___call__
  b_Prices___call__ : Binds K Z.d_Prices___call__ p_Prices___call__ []
  m_Prices___call__ : Meth K Z.c_Prices "__call__" Z.f_Prices___call__
  F_Prices___add__ : Fun K "__add__" "Prices.__add__" s_Prices___add__ Z.f_Prices___add__ Z.d_Prices___add__
  b_Prices___add__ : Binds K Z.d_Prices___add__ p_Prices___add__ []
  m_Prices___add__ : Meth K Z.c_Prices "__add__" Z.f_Prices___add__
  F_Prices___mul__ : Fun K "__mul__" "Prices.__mul__" s_Prices___mul__ Z.f_Prices___mul__ Z.d_Prices___mul__
  b_Prices___mul__ : Binds K Z.d_Prices___mul__ p_Prices___mul__ []
  m_Prices___mul__ : Meth K Z.c_Prices "__mul__" Z.f_Prices___mul__
  F_Prices___eq__ : Fun K "__eq__" "Prices.__eq__" s_Prices___eq__ Z.f_Prices___eq__ Z.d_Prices___eq__
  b_Prices___eq__ : Binds K Z.d_Prices___eq__ p_Prices___eq__ []
  m_Prices___eq__ : Meth K Z.c_Prices "__eq__" Z.f_Prices___eq__
  F__law_start : Fun K "_law_start" "_law_start" s__law_start Z.f__law_start Z.d__law_start
  b__law_start : Binds K Z.d__law_start p__law_start []
  g__law_start : mg "_law_start" = some (.ref Z.f__law_start)
  F__law_drawn : Fun K "_law_drawn" "_law_drawn" s__law_drawn Z.f__law_drawn Z.d__law_drawn
  b__law_drawn : Binds K Z.d__law_drawn p__law_drawn []
  g__law_drawn : mg "_law_drawn" = some (.ref Z.f__law_drawn)
  F__law_same : Fun K "_law_same" "_law_same" s__law_same Z.f__law_same Z.d__law_same
  b__law_same : Binds K Z.d__law_same p__law_same []
  g__law_same : mg "_law_same" = some (.ref Z.f__law_same)
  F__law_outcome : Fun K "_law_outcome" "_law_outcome" s__law_outcome Z.f__law_outcome Z.d__law_outcome
  b__law_outcome : Binds K Z.d__law_outcome p__law_outcome []
  g__law_outcome : mg "_law_outcome" = some (.ref Z.f__law_outcome)
  F__law_fault : Fun K "_law_fault" "_law_fault" s__law_fault Z.f__law_fault Z.d__law_fault
  b__law_fault : Binds K Z.d__law_fault p__law_fault []
  g__law_fault : mg "_law_fault" = some (.ref Z.f__law_fault)
  F__law_agrees : Fun K "_law_agrees" "_law_agrees" s__law_agrees Z.f__law_agrees Z.d__law_agrees
  b__law_agrees : Binds K Z.d__law_agrees p__law_agrees []
  g__law_agrees : mg "_law_agrees" = some (.ref Z.f__law_agrees)
  F_law : Fun K "law" "law" s_law Z.f_law Z.d_law
  b_law : Binds K Z.d_law p_law []
  FC_law : FunC K "law" "law" s_law Z.f_law Z.d_law Z.k_law
  g_law : mg "law" = some (.ref Z.f_law)
end Sw
namespace Sw
open PySem PySem.Spec PyProof.Rows L2 Evl LamX NdefX
/-! ### an instance's fields, for the walk -/
/-- the instance at a has the field, and its class lets it be read -/
structure FlK (K : PySem.W.Frag) (H : Hp) (a C : Addr) (f : Str) (v : V) : Prop where
  fl : Fl H a C f v
  cl : Cls K C
  na : NoAttr K C f
section
variable {K : PySem.W.Frag} {σ : L2.St} {H H' : Hp} {ta tb te tx : TE} {x y z v : V} {a C dx : Addr} {fs : List (Str × V)} {f m : Str}
theorem FlK.mono (e : Ex H H') (h : FlK K H a C f v) : FlK K H' a C f v := ⟨h.fl.mono e, h.cl, h.na⟩
theorem ev_fldK (h : Ev ta σ H (.ref a)) (hf : FlK K H a C f v) : Ev (tFld K ta f) σ H v := ev_fld h hf.fl hf.cl hf.na
theorem atI_mapI {ns : List Int} {i : Int} (h0 : 0 ≤ i) (h1 : i < ns.length) : atI (ns.map V.int) i = some (.int (ns.getD i.toNat 0)) := by
  rw [atI_at (d := V.int 0) h0 (by rw [List.length_map]; exact h1)]
  simp [List.getD]
theorem rng_map {n : Nat} (f : Nat → Int) : (List.range n).map (fun i => V.int (f i)) = ((List.range n).map f).map V.int := by
  rw [List.map_map]; rfl
end
theorem wide_ok {i j : Int} (h : j.natAbs < 2 ^ 60) : CMul i j := .inr (by omega)
theorem at_map {ns : List Int} {i : Nat} {x : V} (h : (ns.map V.int)[i]? = some x) : x = .int (ns.getD i 0) ∧ i < ns.length := by
  rw [List.getElem?_map] at h
  cases e : ns[i]? with
  | none => rw [e] at h; cases h
  | some z =>
    rw [e] at h
    have hi := (List.getElem?_eq_some_iff.mp e).1
    refine ⟨?_, hi⟩
    simp [List.getD, e] at h ⊢
    exact h.symm
theorem getD_mem0 {xs : List Int} {i : Nat} (h : ∀ x ∈ xs, 0 ≤ x ∧ x ≤ 1000000000) : 0 ≤ xs.getD i 0 ∧ xs.getD i 0 ≤ 1000000000 := by
  by_cases hi : i < xs.length
  · have e : xs.getD i 0 = xs[i] := by simp [List.getD, hi]
    rw [e]; exact h _ (List.getElem_mem hi)
  · have e : xs.getD i 0 = 0 := by simp [List.getD, List.getElem?_eq_none (Nat.le_of_not_lt hi)]
    rw [e]; omega
/-- from H to S, what is not of M is kept, and what is of M is known -/
structure Go (M : Addr → Prop) (a : Addr) (H S : Hp) : Prop where
  ex : Ex (wn H M) (wn S M)
  kn : ∀ b, M b → S b ≠ none
  al : ∀ b o, H b = some o → b ≠ a → S b = some o
theorem Go.up {M : Addr → Prop} {H H1 : Hp} {a : Addr} {o : HO} (ha : M a) (kn : ∀ b, M b → H b ≠ none) (e : Ex H H1) : Go M a H (upd H1 a o) := by
  refine ⟨(wn_mono e).trans (wn_upd ha), fun b hb q => ?_, fun b u h z => by rw [upd_ne z]; exact e b u h⟩
  by_cases z : b = a
  · rw [z, upd_same] at q; cases q
  · rw [upd_ne z] at q
    cases hh : H b with
    | none => exact kn b hb hh
    | some u => rw [e b u hh] at q; cases q
theorem flk_of {K : PySem.W.Frag} {S : Hp} {x C dx : Addr} {fs : List (Str × V)} {f : Str} {v : V} (h : S x = some (.ins C dx fs)) (c : Cls K C) (n : NoAttr K C f) (l : fs.lookup f = some v) : FlK K S x C f v := ⟨⟨dx, fs, h, l⟩, c, n⟩
section
variable {K : PySem.W.Frag} {σ : L2.St} {H : Hp} {ta te : TE} {v : V} {a C dx : Addr} {fs : List (Str × V)} {f : Str} {D : Ends} {tz : TS}
variable {M : Addr → Prop}
/-- self.f = e while self is being made -/
theorem q_self (ha : M a) (kn : ∀ b, M b → H b ≠ none) (h : Ev te σ H v) (ho : ∀ H1, Ex H H1 → Ev ta σ H1 (.ref a)) (hx : H a = some (.ins C dx fs)) (c : Cls K C) (n : NoAttr K C f) (hl : fs.length < 1000)
    (k : ∀ S : Hp, S a = some (.ins C dx (putF f v fs)) → Go M a H S → tz D σ S) : tSeq (sFld K ta te f) tz D σ H := q_fld h ho hx c n hl fun H1 e => k _ upd_same (Go.up ha kn e)
theorem fresh_l {H H1 : Hp} {p : Addr} {xs : List V} {o : HO} (ha : M a) (kn : ∀ b, M b → H b ≠ none) (hp : H p = none) (h1 : H1 p = some (.lst xs)) : SqL K (wn (upd H1 a o) M) p xs := by
  have q : ¬ M p := fun z => kn p z hp
  have nb : p ≠ a := fun z => q (by rw [z]; exact ha)
  exact sq_of (by rw [wn_ni q, upd_ne nb]; exact h1)
theorem fresh_t {H H1 : Hp} {p : Addr} {xs : List V} {o : HO} (ha : M a) (kn : ∀ b, M b → H b ≠ none) (hp : H p = none) (h1 : H1 p = some (.tup xs)) : SqT K (wn (upd H1 a o) M) p xs := by
  have q : ¬ M p := fun z => kn p z hp
  have nb : p ≠ a := fun z => q (by rw [z]; exact ha)
  exact st_of (by rw [wn_ni q, upd_ne nb]; exact h1)
theorem q_selfL {xs : List V} (ha : M a) (kn : ∀ b, M b → H b ≠ none) (h : EvL te σ H xs) (ho : ∀ H1, Ex H H1 → Ev ta σ H1 (.ref a)) (hx : H a = some (.ins C dx fs)) (c : Cls K C) (n : NoAttr K C f) (hl : fs.length < 1000)
    (k : ∀ (p : Addr) (S : Hp), SqL K (wn S M) p xs → S a = some (.ins C dx (putF f (.ref p) fs)) → Go M a H S → tz D σ S) : tSeq (sFld K ta te f) tz D σ H := q_fldL h ho hx c n hl fun p H1 hp e h1 =>
  k p _ (fresh_l ha kn hp h1) upd_same (Go.up ha kn e)
theorem s_selfL {xs : List V} (ha : M a) (kn : ∀ b, M b → H b ≠ none) (h : EvL te σ H xs) (ho : ∀ H1, Ex H H1 → Ev ta σ H1 (.ref a)) (hx : H a = some (.ins C dx fs)) (c : Cls K C) (n : NoAttr K C f) (hl : fs.length < 1000)
    (k : ∀ (p : Addr) (S : Hp), SqL K (wn S M) p xs → S a = some (.ins C dx (putF f (.ref p) fs)) → Go M a H S → D.nx σ S) : sFld K ta te f D σ H := s_fldL h ho hx c n hl fun p H1 hp e h1 =>
  k p _ (fresh_l ha kn hp h1) upd_same (Go.up ha kn e)
theorem q_selfU {xs : List V} (ha : M a) (kn : ∀ b, M b → H b ≠ none) (h : EvU te σ H xs) (ho : ∀ H1, Ex H H1 → Ev ta σ H1 (.ref a)) (hx : H a = some (.ins C dx fs)) (c : Cls K C) (n : NoAttr K C f) (hl : fs.length < 1000)
    (k : ∀ (p : Addr) (S : Hp), SqT K (wn S M) p xs → S a = some (.ins C dx (putF f (.ref p) fs)) → Go M a H S → D.nx σ S) : sFld K ta te f D σ H := s_fldU h ho hx c n hl fun p H1 hp e h1 =>
  k p _ (fresh_t ha kn hp h1) upd_same (Go.up ha kn e)
end
section
variable {K : PySem.W.Frag} {σ : L2.St} {H H' : Hp} {ta tb te tx : TE} {x y z v : V} {a c : Addr} {xs : List V}
theorem ev_cval {C : Addr} {mc u : Value} {f : Str} (h : Ev ta σ H (.ref C)) (hc : ClX.CRead K C mc) (cv : ClX.CVal K C mc f v u) : Ev (ClX.tCVal K ta f) σ H v := fun H1 e Q q =>
  h H1 e _ fun H2 e2 => ⟨C, mc, v, u, rfl, hc, cv, q H2 e2⟩
def rTupS (K : PySem.W.Frag) : List V → Hp → VK → Prop := fun xs H Q => ∃ p ys, xs = [.ref p] ∧ ((SqL K H p ys ∧ ∀ l, H l = none → Q (.ref l) (upd H l (.tup ys))) ∨ (SqT K H p ys ∧ Q (.ref p) H))
theorem ev_tupT (h : Ev ta σ H (.ref a)) (hx : SqT K H a xs) : Ev (tCB (rTupS K) (tCons ta tNil)) σ H (.ref a) := fun H1 e Q q =>
  h H1 e _ fun H2 e2 => ⟨a, xs, rfl, .inr ⟨ex_t (e.trans e2) hx, q H2 e2⟩⟩
theorem eu_tupL (h : EvL ta σ H xs) : EvU (tCB (rTupS K) (tCons ta tNil)) σ H xs := fun H1 e Q q =>
  h H1 e _ fun p H2 _ e2 h2 => ⟨p, xs, rfl, .inl ⟨sq_of h2, fun l hl => q l _ (fresh_back e2 hl) (e2.trans (Ex.new hl)) upd_same⟩⟩
/-- what is handed back is some new object with P, seen apart from what M names -/
def EvR (te : TE) (σ : L2.St) (H : Hp) (M : Addr → Prop) (P : Addr → Hp → Prop) : Prop := ∀ H1, Ex H H1 → (∀ b, M b → H1 b ≠ none) → ∀ Q : VK, (∀ p H2, H1 p = none → Ex H1 H2 → P p (wn H2 M) → Q (.ref p) H2) → te σ H1 Q
end
theorem q_selfR {K : PySem.W.Frag} {σ : L2.St} {H : Hp} {ta te : TE} {a C dx : Addr} {fs : List (Str × V)} {f : Str} {D : Ends} {tz : TS} {M : Addr → Prop} {Pr : Addr → Hp → Prop} (ha : M a) (kn : ∀ b, M b → H b ≠ none) (h : EvR te σ H M Pr) (ho : ∀ H1, Ex H H1 → Ev ta σ H1 (.ref a)) (hx : H a = some (.ins C dx fs)) (c : Cls K C) (n : NoAttr K C f) (hl : fs.length < 1000)
    (hm : ∀ p H1 H2, Ex H1 H2 → Pr p H1 → Pr p H2)
    (k : ∀ (p : Addr) (S : Hp), Pr p (wn S M) → S a = some (.ins C dx (putF f (.ref p) fs)) → Go M a H S → tz D σ S) : tSeq (sFld K ta te f) tz D σ H :=
  h H (Ex.refl H) kn _ fun p H1 hp e1 hP => ho H1 e1 H1 (Ex.refl H1) _ fun H2 e2 => ⟨a, C, dx, fs, rfl, e2 _ _ (e1 _ _ hx), c, n, hl,
    k p _ (hm _ _ _ ((wn_mono e2).trans (wn_upd ha)) hP) upd_same (Go.up ha kn (e1.trans e2))⟩
theorem ev_prop {σ : L2.St} {H : Hp} {ta : TE} {C a : Addr} {sp : Sp} {E : XK} {z : V} (h : Ev ta σ H (.ref a)) (hi : ∃ dx fs, H a = some (.ins C dx fs)) (hs : SpV sp [.ref a] H z) : Ev (tProp C sp [] E ta) σ H z := fun H1 e Q q =>
  h H1 e _ fun H2 e2 => let ⟨dx, fs, h1⟩ := hi; ⟨a, dx, fs, rfl, e2 _ _ (e _ _ h1), hs H2 (e.trans e2) Q (fun H3 e3 => q H3 (e2.trans e3)) E⟩
theorem spv_or {sp sp' : Sp} {vs : List V} {H : Hp} {z : V} (h : SpV sp vs H z) : SpV (spOr sp sp') vs H z := fun H1 e Q q E => .inl (h H1 e Q q E)
theorem q_rz {σ : L2.St} {H : Hp} {t : TA} {vs : List V} {sp : Sp} {E : XK} {Q : VK} (ha : EvA t σ H vs) (h : ∀ H1, Ex H H1 → ∀ Q, sp vs H1 Q E) : tCall sp [] E t σ H Q := ha H (Ex.refl H) _ fun H1 e1 => by
  show sp (vs ++ []) H1 Q E
  rw [List.append_nil]; exact h H1 e1 Q
section
variable {K : PySem.W.Frag} {σ : L2.St} {H : Hp} {ta tb tc te : TE} {p : Addr} {ns xs ys : List Int} {b : Bool}
theorem dp_ints : ∀ ns : List Int, DpAll K H (ns.map V.int) (ns.map PyData.int)
  | [] => .nil
  | n :: r => .cons (.int n) (dp_ints r)
theorem tup_shaped (ns : List Int) : SeqAt.shaped (.tuple (ns.map PyData.int)) = true := by
  show (PyData.canLay0 (.tuple (ns.map PyData.int)) && decide (PyData.depth (.tuple (ns.map PyData.int)) ≤ 64)) = true
  rw [Bool.and_eq_true]
  exact ⟨by simp only [PyData.canLay0, canLayAll_ints], decide_eq_true (by simp only [PyData.depth, depthAll_ints]; decide)⟩
end
end Sw
namespace Sw
open PySem PySem.Spec PyProof.Rows L2 Evl
local macro_rules | `(tactic| walk_at "ev") => `(tactic| first
  | exact ev_c
  | exact ev_var rfl
  | ((with_reducible show Ev (tCB rMax2 _) _ _ _); exact ev_maxi (by walk_at "ev") (by walk_at "ev"))
  | ((with_reducible show Ev (tCB rMn _) _ _ _); exact ev_min2 (by walk_at "ev") (by walk_at "ev"))
  | ((with_reducible show Ev (tUn _ _) _ _ _); exact ev_un (by walk_at "ev") ru_neg)
  | ((with_reducible show Ev (tFld _ _ _) _ _ _); exact ev_fldK (by walk_at "ev") (by assumption))
  | ((with_reducible show Ev (tOp (rI0 _) _ _) _ _ _); exact ev_op (by walk_at "ev") (by walk_at "ev") rv_I0)
  | ((with_reducible show Ev (tOp rEq _ _) _ _ _); exact ev_op (by walk_at "ev") (by walk_at "ev") (rv_eq rfl))
  | ((with_reducible show Ev (tOp rNe _ _) _ _ _); exact ev_op (by walk_at "ev") (by walk_at "ev") (rv_ne rfl)))

/-! ### the law's draws: a list of the script, a position, a seed, a rest -/
def HS (H : Hp) (h l : Addr) : Prop := ∃ pos m rest : Int, H h = some (.lst [.ref l, .int pos, .int m, .int rest]) ∧ 0 ≤ pos ∧ 0 ≤ m ∧ m < 2147483647 ∧ 0 ≤ rest
def hl (h _l : Addr) : Addr → Prop := fun b => b = h
theorem HS.mono {H H' : Hp} {h l : Addr} (e : Ex H H') (q : HS H h l) : HS H' h l :=
  let ⟨p, m, r, h1, z⟩ := q; ⟨p, m, r, e _ _ h1, z⟩
theorem HS.kn {H : Hp} {h l : Addr} (q : HS H h l) : ∀ b, hl h l b → H b ≠ none := by
  obtain ⟨_, _, _, h1, _⟩ := q
  rintro b rfl z
  rw [h1] at z; cases z
/-- a draw may change h, and makes what it likes -/
structure Dr (h l : Addr) (H H' : Hp) : Prop where
  hs : HS H' h l
  ex : Ex (wn H (hl h l)) (wn H' (hl h l))
theorem Dr.trans {h l : Addr} {H H1 H2 : Hp} (a : Dr h l H H1) (b : Dr h l H1 H2) : Dr h l H H2 := ⟨b.hs, a.ex.trans b.ex⟩
theorem Dr.refl {h l : Addr} {H : Hp} (q : HS H h l) : Dr h l H H := ⟨q, Ex.refl _⟩
theorem Dr.of {h l : Addr} {H H' : Hp} (q : HS H h l) (e : Ex H H') : Dr h l H H' := ⟨q.mono e, wn_mono e⟩
def sp_drawn (K : PySem.W.Frag) : Sp := fun vs H Q _ => ∃ (h l : Addr) (cells : List Int) (count : Int), vs = [.ref h, .int count] ∧ 0 < count ∧ count ≤ 1000000000000000000 ∧ HS H h l ∧ SqL K (wn H (hl h l)) l (cells.map V.int) ∧ ∀ v H', 0 ≤ v → v < count → Dr h l H H' → Q (.int v) H'
section
variable {K : PySem.W.Frag} {σ : L2.St} {H H' : Hp} {ta tb te tx : TE} {x y z v : V} {a h l : Addr} {xs ys : List V}
theorem el_cat (ha : Ev ta σ H (.ref a)) (hx : H a = some (.lst xs)) (hb : EvL tb σ H ys) (hz : xs.length + ys.length ≤ 100000) : EvL (tOp rCat ta tb) σ H (xs ++ ys) := fun H1 e Q q =>
  ha H1 e _ fun H2 e2 => hb H2 (e.trans e2) _ fun p H3 _ e3 hp => ⟨a, p, xs, ys, rfl, rfl, e3 _ _ (e2 _ _ (e _ _ hx)), hp, sz_of hz, fun r hr => q r _ (fresh_back (e2.trans e3) hr) ((e2.trans e3).trans (Ex.new hr)) upd_same⟩
theorem Dr.upd {o : HO} (hN : hl h l a) (q : HS (L2.upd H a o) h l) : Dr h l H (L2.upd H a o) := ⟨q, wn_upd hN⟩
end
variable {P : Program} {w : World} {K : PySem.W.Frag} {mg : Str → Option Value} {base : Heap} {Z : Ad}
def sp_start (K : PySem.W.Frag) : Sp := fun vs H Q _ => ∃ (a : Addr) (ns : List Int), vs = [.ref a] ∧ SqL K H a (ns.map V.int) ∧ ns.length ≤ 63 ∧ ∀ h H', H h = none → Ex H H' → HS H' h a → Q (.ref h) H'
theorem ok__law_start (T : Txt K mg Z) : FnOk P w K mg base CX0 1 Z.f__law_start Z.d__law_start p__law_start (sp_start K) := by
  refine T.F__law_start.ok sc__law_start (fun vs H Q E h => ?_) (fun cdv Ar outer s H vs Q E hr h => ?_)
  · obtain ⟨a, ns, rfl, _⟩ := h
    rfl
  · obtain ⟨a, ns, rfl, hS, hn, k⟩ := h
    refine ⟨_, (pss_cons (ps_set (i := 1) sc__law_start.nd rfl (Or.inl rfl) pe_int)
      (pss_cons (ps_for PassesOwn.never rfl (pi_listK K rfl (pv 0)) (pg_name (i := 2) sc__law_start.nd rfl (Or.inl rfl)) (pss_one (ps_set (i := 1) sc__law_start.nd rfl (Or.inl rfl) (pe_op op_mod (pe_op op_add (pe_op op_add (pe_op op_mul (pv 1) pe_int) (pv 2)) pe_int) pe_int))))
      (pss_one (ps_ret (pe_lst (pa_cons (pv 0) (pa_cons pe_int (pa_cons (pv 1) (pa_cons pe_int pa_nil))))))))), ?_⟩
    refine q_asg ev_c fun H1 e1 => ?_
    refine q_forLn (ev_var rfl) (ex_l e1 hS) (fun i σ' H' => (∃ m x, σ' = [some (.ref a), some (.int m), x] ∧ 0 ≤ m ∧ m < 2147483647) ∧ Ex H H') (fun H2 e2 => ⟨⟨1, _, rfl, by decide, by decide⟩, e1.trans e2⟩) (fun i σ' H' _ p => ex_l p.2 hS) ?_ ?_
    · rintro i x σ' H' hx ⟨⟨m, _, rfl, m0, m1⟩, e2⟩
      obtain ⟨rfl, hi⟩ := at_map hx
      refine s_asg (ev_op (ev_op (ev_op (ev_op (ev_var rfl) ev_c (rv_I (wide_ok (by decide)))) (ev_var rfl) rv_I0) ev_c rv_I0) ev_c (rv_I (by show (0 : Int) < 2147483647; decide))) fun H2 e3 => ?_
      exact ⟨⟨_, _, rfl, Int.emod_nonneg _ (by decide), Int.emod_lt_of_pos _ (by decide)⟩, e2.trans e3⟩
    · rintro σ' H' ⟨⟨m, _, rfl, m0, m1⟩, e2⟩
      refine ⟨_, rfl, _, rfl, by show 4 ≤ sizeLine; decide, fun r hr => k r _ (fresh_back e2 hr) (e2.trans (Ex.new hr)) ⟨0, m, 0, upd_same, by decide, m0, m1, by decide⟩⟩
theorem ok__law_drawn (T : Txt K mg Z) : FnOk P w K mg base CX0 1 Z.f__law_drawn Z.d__law_drawn p__law_drawn (sp_drawn K) := by
  refine T.F__law_drawn.ok sc__law_drawn (fun vs H Q E h => ?_) (fun cdv Ar outer s H vs Q E hr h => ?_)
  · obtain ⟨a, l, cells, count, rfl, _⟩ := h
    rfl
  · obtain ⟨a, l, cells, count, rfl, p0, p1, hs, hS, k⟩ := h
    obtain ⟨pos, m, rest, h1, q0, m0, m1, r0⟩ := id hs
    have ix0 : ∀ {σ : L2.St} {G : Hp} {te : TE} {p' m' r' : Int}, Ev te σ G (.ref a) → G a = some (.lst [.ref l, .int p', .int m', .int r']) → Ev (tOp (rIxL K) te (tC (.int 0))) σ G (.ref l) := fun he hg => ev_ixL he (sq_of hg) ev_c rfl
    have ix1 : ∀ {σ : L2.St} {G : Hp} {te : TE} {p' m' r' : Int}, Ev te σ G (.ref a) → G a = some (.lst [.ref l, .int p', .int m', .int r']) → Ev (tOp (rIxL K) te (tC (.int 1))) σ G (.int p') := fun he hg => ev_ixL he (sq_of hg) ev_c rfl
    have ix2 : ∀ {σ : L2.St} {G : Hp} {te : TE} {p' m' r' : Int}, Ev te σ G (.ref a) → G a = some (.lst [.ref l, .int p', .int m', .int r']) → Ev (tOp (rIxL K) te (tC (.int 2))) σ G (.int m') := fun he hg => ev_ixL he (sq_of hg) ev_c rfl
    have ix3 : ∀ {σ : L2.St} {G : Hp} {te : TE} {p' m' r' : Int}, Ev te σ G (.ref a) → G a = some (.lst [.ref l, .int p', .int m', .int r']) → Ev (tOp (rIxL K) te (tC (.int 3))) σ G (.int r') := fun he hg => ev_ixL he (sq_of hg) ev_c rfl
    have p10 : (10 : Int) ^ (18 : Int).toNat = 1000000000000000000 := by decide
    have hlen : (((cells.map V.int).length : Nat) : Int) = (cells.length : Int) := by rw [List.length_map]
    refine ⟨_, (pss_cons (ps_if (pt_cmpR op_gt (pe_ix (r := rIxL K) ix_list (pv 0) pe_int (fun _ _ => rfl)) pe_int (nomark _)) (pss_cons (ps_set (i := 2) sc__law_drawn.nd rfl (Or.inl rfl) (pe_op op_mod (pe_ix (r := rIxL K) ix_list (pv 0) pe_int (fun _ _ => rfl)) (pv 1)))
      (pss_cons (ps_asg (pe_op op_fdivW (pe_ix (r := rIxL K) ix_list (pv 0) pe_int (fun _ _ => rfl)) (pv 1)) (pg_sub (pv 0) pe_int set_list))
      (pss_one (ps_ret (pv 2))))) pss_nil)
      (pss_cons (ps_asg (pe_op op_add (pe_ix (r := rIxL K) ix_list (pv 0) pe_int (fun _ _ => rfl)) pe_int) (pg_sub (pv 0) pe_int set_list))
      (pss_cons (ps_if (pt_cmpR op_le (pe_ix (r := rIxL K) ix_list (pv 0) pe_int (fun _ _ => rfl)) (pe_callB (r := rLenS K) (call_len_seq) (by rfl) T.b_len boot_len (pa_cons (pe_ix (r := rIxL K) ix_list (pv 0) pe_int (fun _ _ => rfl)) pa_nil)) (nomark _)) (pss_cons (ps_set (i := 3) sc__law_drawn.nd rfl (Or.inl rfl) (pe_ix (r := rIxL K) ix_list (pe_ix (r := rIxL K) ix_list (pv 0) pe_int (fun _ _ => rfl)) (pe_op op_sub (pe_ix (r := rIxL K) ix_list (pv 0) pe_int (fun _ _ => rfl)) pe_int) (fun _ _ => rfl)))
      (pss_cons (ps_asg (pe_ifExp (pt_cmpR op_ge (pv 3) (pe_op op_pow pe_int pe_int) (nomark _)) (pe_op op_fdivW (pv 3) (pv 1)) pe_int) (pg_sub (pv 0) pe_int set_list))
      (pss_one (ps_ret (pe_op op_mod (pv 3) (pv 1)))))) pss_nil)
      (pss_cons (ps_asg (pe_op op_mod (pe_op op_add (pe_op op_mul (pe_ix (r := rIxL K) ix_list (pv 0) pe_int (fun _ _ => rfl)) pe_int) pe_int) pe_int) (pg_sub (pv 0) pe_int set_list))
      (pss_one (ps_ret (pe_op op_mod (pe_op op_fdivW (pe_ix (r := rIxL K) ix_list (pv 0) pe_int (fun _ _ => rfl)) pe_int) (pv 1)))))))), ?_⟩
    refine q_when (b := decide ((0 : Int) < rest)) (et_test (ev_is (ev_op (ix3 (ev_var rfl) h1) ev_c rv_I0) rfl)) (fun hb H1 e1 => ?_) (fun hb H1 e1 => ?_)
    · have a1 := e1 _ _ h1
      refine q_asg (v := .int (rest % count)) (ev_op (ix3 (ev_var rfl) a1) (ev_var rfl) (rv_I p0)) fun H2 e2 => ?_
      have a2 := e2 _ _ a1
      refine q_setL (j := 3) (v := .int (rest / count)) a2 (ev_op (ix3 (ev_var rfl) a2) (ev_var rfl) (rv_I (wide_div (b := 60) p0 (by omega) (by decide) (by decide)))) (ev_var rfl) ev_c (by show 3 < 4; decide) fun H3 e3 => ?_
      have d1 : (upd H3 a (.lst (([.ref l, .int pos, .int m, .int rest] : List V).set 3 (.int (rest / count))))) a = some (.lst [.ref l, .int pos, .int m, .int (rest / count)]) := upd_same
      have q3 : HS (upd H3 a (.lst (([.ref l, .int pos, .int m, .int rest] : List V).set 3 (.int (rest / count))))) a l := ⟨_, _, _, d1, q0, m0, m1, Int.ediv_nonneg r0 (by omega)⟩
      refine s_ret (ev_var rfl) fun H4 e4 => ?_
      exact k _ _ (Int.emod_nonneg _ (by omega)) (Int.emod_lt_of_pos _ p0) (((Dr.of hs ((e1.trans e2).trans e3)).trans (Dr.upd rfl q3)).trans (Dr.of q3 e4))
    · have a1 := e1 _ _ h1
      refine q_setL (j := 1) (v := .int (pos + 1)) a1 (ev_op (ix1 (ev_var rfl) a1) ev_c rv_I0) (ev_var rfl) ev_c (by show 1 < 4; decide) fun H2 e2 => ?_
      have d1 : (upd H2 a (.lst (([.ref l, .int pos, .int m, .int rest] : List V).set 1 (.int (pos + 1))))) a = some (.lst [.ref l, .int (pos + 1), .int m, .int rest]) := upd_same
      have q3 : HS (upd H2 a (.lst (([.ref l, .int pos, .int m, .int rest] : List V).set 1 (.int (pos + 1))))) a l := ⟨_, _, _, d1, by omega, m0, m1, r0⟩
      have D3 := (Dr.of hs (e1.trans e2)).trans (Dr.upd rfl q3)
      generalize upd H2 a (.lst (([.ref l, .int pos, .int m, .int rest] : List V).set 1 (.int (pos + 1)))) = S3 at d1 q3 D3 ⊢
      have hS3 : SqL K S3 l (cells.map V.int) := ex_l (D3.ex.trans wn_ex) hS
      refine q_when (b := decide (pos + 1 ≤ (cells.length : Int))) (et_test (ev_is (ev_op (ix1 (ev_var rfl) d1) (Ev.int_eq (ev_len (ix0 (ev_var rfl) d1) hS3) hlen) rv_I0) rfl)) (fun hb2 H4 e4 => ?_) (fun hb2 H4 e4 => ?_)
      · have hp : pos + 1 ≤ (cells.length : Int) := by simpa using hb2
        have d4 := e4 _ _ d1
        refine q_asg (v := .int (cells.getD pos.toNat 0)) (ev_ixL (ix0 (ev_var rfl) d4) (ex_l e4 hS3) (Ev.int_eq (i := pos + 1 - 1) (ev_op (ix1 (ev_var rfl) d4) ev_c rv_I0) (by omega)) (atI_mapI q0 (by omega))) fun H5 e5 => ?_
        generalize cells.getD pos.toNat 0 = cell
        have d5 := e5 _ _ d4
        refine q_setL (j := 3) (v := .int (if (1000000000000000000 : Int) ≤ cell then cell / count else 0)) d5 ?_ (ev_var rfl) ev_c (by show 3 < 4; decide) fun H6 e6 => ?_
        · by_cases hc : (1000000000000000000 : Int) ≤ cell
          · rw [if_pos hc]
            exact ev_if (b := true) (et_is (et_test (ev_op (ev_var rfl) (Ev.int_eq (ev_op ev_c ev_c (rv_I ⟨by decide, by decide, by decide⟩)) p10) rv_I0)) (by simpa using hc)) (fun _ => ev_op (ev_var rfl) (ev_var rfl) (rv_I (wide_div (b := 60) p0 (by omega) (by decide) (by decide)))) (fun z => nomatch z)
          · rw [if_neg hc]
            exact ev_if (b := false) (et_is (et_test (ev_op (ev_var rfl) (Ev.int_eq (ev_op ev_c ev_c (rv_I ⟨by decide, by decide, by decide⟩)) p10) rv_I0)) (by simpa using hc)) (fun z => nomatch z) (fun _ => ev_c)
        have r6 : 0 ≤ (if (1000000000000000000 : Int) ≤ cell then cell / count else 0) := by
          split
          · exact Int.ediv_nonneg (by omega) (by omega)
          · decide
        generalize (if (1000000000000000000 : Int) ≤ cell then cell / count else 0) = rest' at r6 ⊢
        have d6 : (upd H6 a (.lst (([.ref l, .int (pos + 1), .int m, .int rest] : List V).set 3 (.int rest')))) a = some (.lst [.ref l, .int (pos + 1), .int m, .int rest']) := upd_same
        have q6 : HS (upd H6 a (.lst (([.ref l, .int (pos + 1), .int m, .int rest] : List V).set 3 (.int rest')))) a l := ⟨_, _, _, d6, by omega, m0, m1, r6⟩
        refine s_ret (ev_op (ev_var rfl) (ev_var rfl) (rv_I p0)) fun H7 e7 => ?_
        exact k _ _ (Int.emod_nonneg _ (by omega)) (Int.emod_lt_of_pos _ p0) (((D3.trans (Dr.of q3 ((e4.trans e5).trans e6))).trans (Dr.upd rfl q6)).trans (Dr.of q6 e7))
      · have d4 := e4 _ _ d1
        have n0 : 0 ≤ (m * 48271 + 11) % 2147483647 := Int.emod_nonneg _ (by omega)
        have n1 : (m * 48271 + 11) % 2147483647 < 2147483647 := Int.emod_lt_of_pos _ (by omega)
        refine q_setL (j := 2) (v := .int ((m * 48271 + 11) % 2147483647)) d4 (ev_op (ev_op (ev_op (ix2 (ev_var rfl) d4) ev_c (rv_I (wide_ok (by decide)))) ev_c rv_I0) ev_c (rv_I (by show (0 : Int) < 2147483647; decide))) (ev_var rfl) ev_c (by show 2 < 4; decide) fun H6 e6 => ?_
        generalize (m * 48271 + 11) % 2147483647 = m' at n0 n1 ⊢
        have d6 : (upd H6 a (.lst (([.ref l, .int (pos + 1), .int m, .int rest] : List V).set 2 (.int m')))) a = some (.lst [.ref l, .int (pos + 1), .int m', .int rest]) := upd_same
        have q6 : HS (upd H6 a (.lst (([.ref l, .int (pos + 1), .int m, .int rest] : List V).set 2 (.int m')))) a l := ⟨_, _, _, d6, by omega, n0, n1, r0⟩
        refine s_ret (ev_op (ev_op (ix2 (ev_var rfl) d6) ev_c (rv_I (wide_div (b := 3) (by decide) (by decide) (by decide) (by decide)))) (ev_var rfl) (rv_I p0)) fun H7 e7 => ?_
        exact k _ _ (Int.emod_nonneg _ (by omega)) (Int.emod_lt_of_pos _ p0) (((D3.trans (Dr.of q3 (e4.trans e6))).trans (Dr.upd rfl q6)).trans (Dr.of q6 e7))
end Sw
namespace Sw
open PySem PySem.Spec PyProof.Rows L2 Evl
local macro_rules | `(tactic| walk_at "ev") => `(tactic| first
  | exact ev_c
  | exact ev_var rfl
  | ((with_reducible show Ev (tCB rMax2 _) _ _ _); exact ev_maxi (by walk_at "ev") (by walk_at "ev"))
  | ((with_reducible show Ev (tCB rMn _) _ _ _); exact ev_min2 (by walk_at "ev") (by walk_at "ev"))
  | ((with_reducible show Ev (tUn _ _) _ _ _); exact ev_un (by walk_at "ev") ru_neg)
  | ((with_reducible show Ev (tFld _ _ _) _ _ _); exact ev_fldK (by walk_at "ev") (by assumption))
  | ((with_reducible show Ev (tOp (rI0 _) _ _) _ _ _); exact ev_op (by walk_at "ev") (by walk_at "ev") rv_I0)
  | ((with_reducible show Ev (tOp rEq _ _) _ _ _); exact ev_op (by walk_at "ev") (by walk_at "ev") (rv_eq rfl))
  | ((with_reducible show Ev (tOp rNe _ _) _ _ _); exact ev_op (by walk_at "ev") (by walk_at "ev") (rv_ne rfl)))

/-! ### evaluating while cells are drawn -/
def EvX (te : TE) (σ : L2.St) (H : Hp) (h l : Addr) (P : V → Hp → Prop) : Prop := ∀ H1, Dr h l H H1 → ∀ Q : VK, (∀ v H2, Dr h l H1 H2 → P v (wn H2 (hl h l)) → Q v H2) → te σ H1 Q
def EvI (te : TE) (σ : L2.St) (H : Hp) (h l : Addr) (A : Int → Prop) : Prop := EvX te σ H h l fun v _ => ∃ i, v = .int i ∧ A i
def EvXT (t : TT) (σ : L2.St) (H : Hp) (h l : Addr) : Prop := ∀ H1, Dr h l H H1 → ∀ Q : Bool → Hp → Prop, (∀ b H2, Dr h l H1 H2 → Q b H2) → t σ H1 Q
/-- a list, a tuple of numbers -/
def LI (A : List Int → Prop) : V → Hp → Prop := fun v G => ∃ p ns, v = .ref p ∧ G p = some (.lst (ns.map V.int)) ∧ A ns
def TI' (A : List Int → Prop) : V → Hp → Prop := fun v G => ∃ p ns, v = .ref p ∧ G p = some (.tup (ns.map V.int)) ∧ A ns
section
variable {K : PySem.W.Frag} {σ : L2.St} {H H' : Hp} {ta tb tc te tx : TE} {x y z v : V} {a h l : Addr} {xs ys : List V} {A B C D : Int → Prop} {i j : Int}
theorem hl_kind {G : Hp} {p : Addr} {o : HO} (q : HS G h l) (hp : G p = some o) (ho : ∀ ys, o ≠ .lst ys) : ¬ hl h l p := by
  obtain ⟨_, _, _, h1, _⟩ := q
  rintro rfl
  rw [h1] at hp; exact ho _ (Option.some.inj hp).symm
theorem hl_new {G G' : Hp} {p : Addr} (q : HS G h l) (hp : G p = none) : ¬ hl h l p := fun z => q.kn p z hp
theorem x_ev (hv : Ev te σ (wn H (hl h l)) v) : EvX te σ H h l (fun u _ => u = v) := fun H1 d Q q => hv H1 (d.ex.trans wn_ex) Q fun H2 e2 => q v H2 (Dr.of d.hs e2) rfl
theorem xi_ev (hv : Ev te σ (wn H (hl h l)) (.int i)) (ha : A i) : EvI te σ H h l A := fun H1 d Q q => hv H1 (d.ex.trans wn_ex) Q fun H2 e2 => q _ H2 (Dr.of d.hs e2) ⟨i, rfl, ha⟩
theorem x_evU (hv : EvU te σ (wn H (hl h l)) xs) : EvX te σ H h l (fun u G => ∃ p, u = .ref p ∧ G p = some (.tup xs)) := fun H1 d Q q =>
  hv H1 (d.ex.trans wn_ex) Q fun p H2 hp e2 h2 => q _ H2 (Dr.of d.hs e2) ⟨p, rfl, by rw [wn_ni (hl_new (G' := H2) d.hs hp)]; exact h2⟩
theorem x_evL (hv : EvL te σ (wn H (hl h l)) xs) : EvX te σ H h l (fun u G => ∃ p, u = .ref p ∧ G p = some (.lst xs)) := fun H1 d Q q =>
  hv H1 (d.ex.trans wn_ex) Q fun p H2 hp e2 h2 => q _ H2 (Dr.of d.hs e2) ⟨p, rfl, by rw [wn_ni (hl_new (G' := H2) d.hs hp)]; exact h2⟩
theorem x_evW (hv : EvW K te σ (wn H (hl h l)) xs) : EvX te σ H h l (fun u G => ∃ p, u = .ref p ∧ SqT K G p xs) := fun H1 d Q q =>
  hv H1 (d.ex.trans wn_ex) Q fun p H2 e2 h2 => q _ H2 (Dr.of d.hs e2) ⟨p, rfl, by
    have q2 := d.hs.mono e2
    rcases h2 with (z | ⟨u, z⟩) | z
    · exact .inl (.inl (by rw [wn_ni (hl_kind q2 z (fun _ q => nomatch q))]; exact z))
    · exact .inl (.inr ⟨u, by rw [wn_ni (hl_kind q2 z (fun _ q => nomatch q))]; exact z⟩)
    · exact .inr z⟩
theorem x_evR {Pr : Addr → Hp → Prop} (hv : EvR te σ (wn H (hl h l)) (hl h l) Pr) : EvX te σ H h l (fun u G => ∃ p, u = .ref p ∧ Pr p G) := fun H1 d Q q =>
  hv H1 (d.ex.trans wn_ex) d.hs.kn Q fun p H2 _ e2 hP => q _ H2 (Dr.of d.hs e2) ⟨p, rfl, hP⟩
theorem EvX.imp {P P' : V → Hp → Prop} (hv : EvX te σ H h l P) (f : ∀ v G, P v G → P' v G) : EvX te σ H h l P' := fun H1 d Q q => hv H1 d Q fun v H2 d2 p => q v H2 d2 (f _ _ p)
theorem EvX.from {P : V → Hp → Prop} (d : Dr h l H H') (hv : EvX te σ H h l P) : EvX te σ H' h l P := fun H1 d1 Q q => hv H1 (d.trans d1) Q q
theorem EvI.imp (hv : EvI te σ H h l A) (f : ∀ i, A i → B i) : EvI te σ H h l B := fun H1 d Q q => hv H1 d Q fun v H2 d2 ⟨i, e, p⟩ => q v H2 d2 ⟨i, e, f i p⟩
theorem xi_op0 {g : Int → Int → Int} (ha : EvI ta σ H h l A) (hb : EvI tb σ H h l B) (hc : ∀ i j, A i → B j → D (g i j)) : EvI (tOp (rI0 fun i j => .int (g i j)) ta tb) σ H h l D := fun H1 d Q q =>
  ha H1 d _ fun _ H2 d2 ⟨i, e, hi⟩ => hb H2 (d.trans d2) _ fun _ H3 d3 ⟨j, e', hj⟩ => ⟨i, j, e, e', q _ H3 (d2.trans d3) ⟨_, rfl, hc i j hi hj⟩⟩
theorem xi_op {R : Int → Int → Prop} {g : Int → Int → Int} (ha : EvI ta σ H h l A) (hb : EvI tb σ H h l B) (hc : ∀ i j, A i → B j → R i j ∧ D (g i j)) : EvI (tOp (rI R fun i j => .int (g i j)) ta tb) σ H h l D := fun H1 d Q q =>
  ha H1 d _ fun _ H2 d2 ⟨i, e, hi⟩ => hb H2 (d.trans d2) _ fun _ H3 d3 ⟨j, e', hj⟩ => ⟨i, j, e, e', (hc i j hi hj).1, q _ H3 (d2.trans d3) ⟨_, rfl, (hc i j hi hj).2⟩⟩
theorem xi_drawn {E : XK} {cells : List Int} (hS : SqL K (wn H (hl h l)) l (cells.map V.int)) (ha : ∀ G, Ev ta σ G (.ref h)) (hb : EvI tb σ H h l A) (hA : ∀ i, A i → 0 < i ∧ i ≤ 1000000000000000000) : EvI (tCall (sp_drawn K) [] E (tCons ta (tCons tb tNil))) σ H h l (fun v => 0 ≤ v ∧ ∃ i, A i ∧ v < i) := fun H1 d Q q =>
  ha H1 H1 (Ex.refl _) _ fun H2 e2 => hb H2 (d.trans (Dr.of d.hs e2)) _ fun _ H3 d3 ⟨i, e, hi⟩ => by
    subst e
    exact ⟨h, l, cells, i, rfl, (hA i hi).1, (hA i hi).2, d3.hs, ex_l (((d.trans (Dr.of d.hs e2)).trans d3).ex) hS, fun v H4 v0 v1 d4 => q _ H4 (((Dr.of d.hs e2).trans d3).trans d4) ⟨v, rfl, v0, i, hi, v1⟩⟩
theorem xb_cmp {g : Int → Int → Bool} (ha : EvI ta σ H h l A) (hb : EvI tb σ H h l B) : EvX (tOp (rI0 fun i j => .bl (g i j)) ta tb) σ H h l (fun v _ => ∃ k, v = .bl k) := fun H1 d Q q =>
  ha H1 d _ fun _ H2 d2 ⟨i, e, _⟩ => hb H2 (d.trans d2) _ fun _ H3 d3 ⟨j, e', _⟩ => ⟨i, j, e, e', q _ H3 (d2.trans d3) ⟨_, rfl⟩⟩
theorem xb_eq (ha : EvI ta σ H h l A) (hb : EvI tb σ H h l B) : EvX (tOp rEq ta tb) σ H h l (fun v _ => ∃ k, v = .bl k) := fun H1 d Q q =>
  ha H1 d _ fun _ H2 d2 ⟨i, e, _⟩ => hb H2 (d.trans d2) _ fun _ H3 d3 ⟨j, e', _⟩ => by
    subst e e'
    exact ⟨rfl, q _ H3 (d2.trans d3) ⟨_, rfl⟩⟩
def rInt1 : List V → Hp → VK → Prop := fun xs H Q => (∃ i, xs = [.int i] ∧ Q (.int i) H) ∨ ∃ k, xs = [.bl k] ∧ Q (.int (if k then 1 else 0)) H
theorem xi_intb (ha : EvX ta σ H h l (fun v _ => ∃ k, v = .bl k)) : EvI (tCB rInt1 (tCons ta tNil)) σ H h l (fun i => i = 0 ∨ i = 1) := fun H1 d Q q =>
  ha H1 d _ fun _ H2 d2 ⟨k, e⟩ => .inr ⟨k, by rw [e], q _ H2 d2 ⟨_, rfl, by cases k <;> simp⟩⟩
theorem xt_test (ha : EvX ta σ H h l (fun v _ => ∃ k, v = .bl k)) : EvXT (tTest ta) σ H h l := fun H1 d Q q => ha H1 d _ fun _ H2 d2 ⟨k, e⟩ => ⟨k, e, q k H2 d2⟩
/-- [a, b][draw] -/
theorem xi_pick {n : Nat} {ns : List Int} (ha : EvL ta σ (wn H (hl h l)) (ns.map V.int)) (hb : EvI tb σ H h l B) (hn : ∀ i, B i → 0 ≤ i ∧ i < ns.length) : EvI (tOp (rIxL K) ta tb) σ H h l (fun i => i ∈ ns) := fun H1 d Q q =>
  x_evL ha H1 d _ fun _ H2 d2 ⟨p, e, hp⟩ => hb H2 (d.trans d2) _ fun _ H3 d3 ⟨j, e', hj⟩ => by
    subst e e'
    obtain ⟨j0, j1⟩ := hn j hj
    refine ⟨p, ns.map V.int, j, .int (ns.getD j.toNat 0), rfl, rfl, sq_of (wn_ex _ _ (d3.ex _ _ hp)), atI_mapI j0 j1, q _ H3 (d2.trans d3) ⟨_, rfl, ?_⟩⟩
    have hlt : j.toNat < ns.length := by omega
    have e : ns.getD j.toNat 0 = ns[j.toNat] := by simp [List.getD, hlt]
    rw [e]; exact List.getElem_mem hlt
/-- [e for i in range(n)], e drawn -/
theorem x_lcR {ta : TA} {jj : Nat} {vs : List Nat} {n : Int} (hn : EvA ta σ (wn H (hl h l)) [.int n]) (hz : 0 ≤ n ∧ n ≤ 40000) (hw : ∀ x, wipe ((wipe σ vs).set jj (some x)) vs = wipe σ vs)
    (he : ∀ (i : Nat) H1, Dr h l H H1 → (i : Int) < n → EvI te ((wipe σ vs).set jj (some (.int (i : Int)))) H1 h l A) : EvX (tLc (iRng1 ta) (gName jj) tYes te vs) σ H h l (LI fun ns => (ns.length : Int) = n ∧ ∀ x ∈ ns, A x) := fun H0 d0 Q q =>
  hn H0 (d0.ex.trans wn_ex) _ fun H1 e1 => ⟨n, rfl, by omega, by omega, fun Dl hD => by
    have d1 := Dr.of d0.hs e1
    have nD : ¬ hl h l Dl := hl_new (G' := H1) d1.hs hD
    have dn : Dr h l H1 (upd H1 Dl (.lst [])) := Dr.of d1.hs (Ex.new hD)
    refine lc_range (lo := 0) (n := n.toNat) (fun i H' => Dr h l H1 H' ∧ ∃ ns : List Int, H' Dl = some (.lst (ns.map V.int)) ∧ ns.length = i ∧ ∀ x ∈ ns, A x) ⟨dn, [], upd_same, rfl, by simp⟩ (fun i H' hi p => ?_) (fun H' p => ?_)
    · obtain ⟨d2, ns, h2, hl2, hA⟩ := p
      have e0 : (0 : Int) + (i : Int) = (i : Int) := Int.zero_add _
      show wipe ((wipe σ vs).set jj (some (.int ((0 : Int) + (i : Int))))) vs = wipe σ vs ∧ _
      refine ⟨hw _, ?_⟩
      show te ((wipe σ vs).set jj (some (.int ((0 : Int) + (i : Int))))) H' _
      rw [e0]
      refine he i H' ((d0.trans d1).trans d2) (by omega) H' (Dr.refl d2.hs) _ fun v H3 d3 hv => ?_
      obtain ⟨k, rfl, hk⟩ := hv
      have h3 : H3 Dl = some (.lst (ns.map V.int)) := wn_ex _ _ (d3.ex _ _ (by rw [wn_ni nD]; exact h2))
      have d5 : Dr h l H1 (upd H3 Dl (.lst (ns.map V.int ++ [.int k]))) := ⟨by
        obtain ⟨p0, m, r, a1, rr⟩ := d3.hs
        exact ⟨p0, m, r, by rw [upd_ne (fun z => nD z.symm)]; exact a1, rr⟩, fun b u hb => by
        obtain ⟨q1, q2⟩ := wn_some hb
        have z := wn_ex _ _ ((d2.trans d3).ex b u hb)
        rw [wn_ni q1, upd_ne (ne_of_none q2 hD)]
        exact z⟩
      refine ⟨_, h3, by rw [List.length_map]; exact sz_lt (by omega), d5, ns ++ [k], by rw [upd_same, List.map_append]; rfl, by rw [List.length_append, hl2]; rfl, fun x hx => ?_⟩
      rcases List.mem_append.mp hx with z | z
      · exact hA x z
      · rw [List.mem_singleton.mp z]; exact hk
    · obtain ⟨d2, ns, h2, hl2, hA⟩ := p
      exact q _ H' (d1.trans d2) ⟨Dl, ns, rfl, by rw [wn_ni nD]; exact h2, by omega, hA⟩⟩
/-- statements whose values are drawn -/
theorem x_ret {P : V → Hp → Prop} {D : Ends} (hs : HS H h l) (hx : EvX te σ H h l P) (k : ∀ v H2, Dr h l H H2 → P v (wn H2 (hl h l)) → D.rt v H2) : tRet te D σ H := hx H (Dr.refl hs) _ k
theorem x_asgG {P : V → Hp → Prop} {D : Ends} {tz : TS} {g : TG} (hs : HS H h l) (hx : EvX te σ H h l P) (k : ∀ v H2, Dr h l H H2 → P v (wn H2 (hl h l)) → g v σ H2 (tz D)) : tSeq (tAsg te g) tz D σ H := hx H (Dr.refl hs) _ k
theorem x_asg {P : V → Hp → Prop} {D : Ends} {tz : TS} {n : Nat} (hs : HS H h l) (hx : EvX te σ H h l P) (k : ∀ v H2, Dr h l H H2 → P v (wn H2 (hl h l)) → tz D (σ.set n (some v)) H2) : tSeq (tAsg te (gName n)) tz D σ H := hx H (Dr.refl hs) _ k
theorem x_asgI {D : Ends} {tz : TS} {n : Nat} (hs : HS H h l) (hx : EvI te σ H h l A) (k : ∀ i H2, Dr h l H H2 → A i → tz D (σ.set n (some (.int i))) H2) : tSeq (tAsg te (gName n)) tz D σ H := hx H (Dr.refl hs) _ fun _ H2 d ⟨i, e, p⟩ => by subst e; exact k i H2 d p
theorem x_par {P Q : V → Hp → Prop} {D : Ends} {tz : TS} {m n : Nat} (hs : HS H h l) (hx : EvX ta σ H h l P) (hy : EvX tb σ H h l Q) (k : ∀ v w H1 H2, Dr h l H H1 → Dr h l H1 H2 → P v (wn H1 (hl h l)) → Q w (wn H2 (hl h l)) → tz D ((σ.set m (some v)).set n (some w)) H2) : tSeq (tPar m n (tCons ta (tCons tb tNil))) tz D σ H :=
  hx H (Dr.refl hs) _ fun v H1 d1 p1 => hy H1 d1 _ fun w H2 d2 p2 => ⟨v, w, rfl, k v w H1 H2 d1 d2 p1 p2⟩
theorem x_if {D : Ends} {tt : TT} {tu tw tz : TS} (hs : HS H h l) (hx : EvXT tt σ H h l) (h1 : ∀ H2, Dr h l H H2 → tu { D with nx := tz D } σ H2) (h2 : ∀ H2, Dr h l H H2 → tw { D with nx := tz D } σ H2) : tSeq (tIfS tt tu tw) tz D σ H := hx H (Dr.refl hs) _ fun b H2 d => by
  cases b with
  | true => exact h1 H2 d
  | false => exact h2 H2 d
theorem x_ifK {M : L2.St → Hp → Prop} {D : Ends} {tt : TT} {tu tw tz : TS} (hs : HS H h l) (hx : EvXT tt σ H h l) (fin : ∀ σ' H', M σ' H' → tz D σ' H') (h1 : ∀ H2, Dr h l H H2 → (∀ σ' H', M σ' H' → tz D σ' H') → tu { D with nx := tz D } σ H2)
    (h2 : ∀ H2, Dr h l H H2 → (∀ σ' H', M σ' H' → tz D σ' H') → tw { D with nx := tz D } σ H2) : tSeq (tIfS tt tu tw) tz D σ H := x_if hs hx (fun H2 d => h1 H2 d fin) (fun H2 d => h2 H2 d fin)
/-- a call all of whose arguments are drawn: the first ones plain -/
theorem x_call3 {sp : Sp} {E : XK} {P : V → Hp → Prop} {u : V} (ha : ∀ G, Ev ta σ G u) (hb : EvI tb σ H h l A) (hc : EvI tc σ H h l B) (hp : ∀ i j H1, A i → B j → Dr h l H H1 → ∀ Q : VK, (∀ v H2, Dr h l H1 H2 → P v (wn H2 (hl h l)) → Q v H2) → sp [u, .int i, .int j] H1 Q E) :
    EvX (tCall sp [] E (tCons ta (tCons tb (tCons tc tNil)))) σ H h l P := fun H1 d Q q =>
  ha H1 H1 (Ex.refl _) _ fun H2 e2 => hb H2 (d.trans (Dr.of d.hs e2)) _ fun _ H3 d3 ⟨i, e, hi⟩ => hc H3 ((d.trans (Dr.of d.hs e2)).trans d3) _ fun _ H4 d4 ⟨j, e', hj⟩ => by
    subst e e'
    exact hp i j H4 hi hj (((d.trans (Dr.of d.hs e2)).trans d3).trans d4) Q fun v H5 d5 p => q v H5 ((((Dr.of d.hs e2)).trans d3).trans (d4.trans d5)) p
theorem x_tupL {A : List Int → Prop} (ha : EvX ta σ H h l (LI A)) : EvX (tCB (rTupS K) (tCons ta tNil)) σ H h l (TI' A) := fun H1 d Q q =>
  ha H1 d _ fun _ H2 d2 ⟨p, ns, e, hp, hA⟩ => ⟨p, ns.map V.int, by rw [e], .inl ⟨sq_of (wn_ex _ _ hp), fun t ht => by
    have d3 := Dr.of d2.hs (Ex.new (o := .tup (ns.map V.int)) ht)
    exact q _ _ (d2.trans d3) ⟨t, ns, rfl, by rw [wn_ni (hl_new (G' := H2) d2.hs ht)]; exact upd_same, hA⟩⟩⟩
theorem ew_cat (ha : EvW K ta σ H xs) (hb : EvW K tb σ H ys) (hz : xs.length + ys.length ≤ 100000) : EvW K (tOp (rCatA K) ta tb) σ H (xs ++ ys) := fun H1 e Q q =>
  ha H1 e _ fun p H2 e2 h2 => hb H2 (e.trans e2) _ fun r H3 e3 h3 => ⟨p, r, xs, ys, rfl, rfl, ex_t e3 h2, h3, sz_of hz,
    fun z => q r H3 (e2.trans e3) (by rw [z]; exact h3), fun _ z => q p H3 (e2.trans e3) (by rw [z, List.append_nil]; exact ex_t e3 h2),
    fun _ _ t ht => q t _ ((e2.trans e3).trans (Ex.new ht)) (st_of upd_same)⟩
theorem ew_drop {tl : TE} {k : Nat} (ha : EvW K te σ H xs) (hk : Ev tl σ H (.int (k : Int))) : EvW K (tSl (rSlA K) te (tPart tl) tNoPart) σ H (xs.drop k) := fun H1 e Q q =>
  ha H1 e _ fun p H2 e2 h2 => hk H2 (e.trans e2) _ fun H3 e3 => ⟨(k : Int), rfl, p, xs, rfl, ex_t e3 h2, fun w => by
      have hi : min k xs.length = 0 := by rw [← HT.sIx_nat xs.length 0 k]; exact w.1
      have t : xs.drop k = xs := by
        rcases Nat.eq_zero_or_pos k with z | z
        · rw [z]; rfl
        · have : xs.length = 0 := by omega
          rw [List.length_eq_zero_iff.mp this]; simp
      rw [t] at q
      exact q p H3 (e2.trans e3) (ex_t e3 h2), fun _ r hr => by
      refine q r _ ((e2.trans e3).trans (Ex.new hr)) (st_of ?_)
      rw [upd_same]
      unfold cutV
      rw [HT.sIx_none, HT.sIx_nat]
      congr 2
      by_cases hk : k ≤ xs.length
      · rw [Nat.min_eq_left hk, List.take_of_length_le (by simp)]
      · rw [Nat.min_eq_right (by omega)]
        simp [List.drop_eq_nil_of_le (Nat.le_of_not_le hk)]⟩
end
end Sw
namespace Sw
open PySem PySem.Spec PyProof.Rows L2 Evl
local macro_rules | `(tactic| walk_at "ev") => `(tactic| first
  | exact ev_c
  | exact ev_var rfl
  | ((with_reducible show Ev (tCB rMax2 _) _ _ _); exact ev_maxi (by walk_at "ev") (by walk_at "ev"))
  | ((with_reducible show Ev (tCB rMn _) _ _ _); exact ev_min2 (by walk_at "ev") (by walk_at "ev"))
  | ((with_reducible show Ev (tUn _ _) _ _ _); exact ev_un (by walk_at "ev") ru_neg)
  | ((with_reducible show Ev (tFld _ _ _) _ _ _); exact ev_fldK (by walk_at "ev") (by assumption))
  | ((with_reducible show Ev (tOp (rI0 _) _ _) _ _ _); exact ev_op (by walk_at "ev") (by walk_at "ev") rv_I0)
  | ((with_reducible show Ev (tOp rEq _ _) _ _ _); exact ev_op (by walk_at "ev") (by walk_at "ev") (rv_eq rfl))
  | ((with_reducible show Ev (tOp rNe _ _) _ _ _); exact ev_op (by walk_at "ev") (by walk_at "ev") (rv_ne rfl)))

/-! ### prices: which are wrong -/
def okc (c : Int) : Bool := decide (0 ≤ c) && decide (c ≤ 1000000)
def pf : Nat → Str
  | 0 => "sale"
  | 1 => "cost"
  | _ => "waste"
/-- the part of the first wrong one -/
def flt (ns : List Int) : Option Str := if okc (ns.getD 0 0) = false then some (pf 0) else if okc (ns.getD 1 0) = false then some (pf 1) else if okc (ns.getD 2 0) = false then some (pf 2) else none
theorem pf_len (k : Nat) : (pf k).length ≤ 1000 := by
  match k with
  | 0 => decide +kernel
  | 1 => decide +kernel
  | (n + 2) => show (Str.ofString "waste").length ≤ 1000; decide +kernel
/-! ### tuples of three into names -/
section
variable {K : PySem.W.Frag} {σ : L2.St} {H : Hp} {te : TE} {a : Addr} {x y z : V}
theorem q_un3 {i j k : Nat} {D : Ends} {tz : TS} (h : Ev te σ H (.ref a)) (hx : SqT K H a [x, y, z]) (c : ∀ H1, Ex H H1 → tz D (((σ.set i (some x)).set j (some y)).set k (some z)) H1) :
    tSeq (tAsg te (gTup K 3 (gCons (gName i) (gCons (gName j) (gCons (gName k) gNil))))) tz D σ H := h H (Ex.refl H) _ fun H1 e1 => ⟨a, [x, y, z], rfl, ex_t e1 hx, rfl, _, _, rfl, _, _, rfl, _, _, rfl, rfl, c H1 e1⟩
end
variable {P : Program} {w : World} {K : PySem.W.Frag} {mg : Str → Option Value} {base : Heap} {Z : Ad}
/-! ### check_price -/
def sp_cp : Sp := fun vs H Q _ => ∃ (s : Str) (c : Int), vs = [.str s, .int c] ∧ okc c = true ∧ RetV .non H Q
theorem spv_cp {H : Hp} {s : Str} {c : Int} (h : okc c = true) : SpV sp_cp [.str s, .int c] H .non := fun _ _ _ q _ => ⟨s, c, rfl, h, q⟩
theorem okc_b (c : Int) : (decide (c < 0) || decide (1000000 < c)) = !okc c := by
  unfold okc
  by_cases h1 : c < 0 <;> by_cases h2 : 1000000 < c <;> simp [h1, h2] <;> omega
theorem ok_check_price (T : Txt K mg Z) : FnOk P w K mg base CX0 3 Z.f_check_price Z.d_check_price p_check_price sp_cp := by
  refine T.F_check_price.ok sc_check_price (fun vs H Q E h => ?_) (fun cdv Ar outer s H vs Q E hr h => ?_)
  · obtain ⟨s, c, rfl, _⟩ := h
    rfl
  · obtain ⟨s, c, rfl, h1, k⟩ := h
    refine ⟨_, (pss_one (ps_if (PW.pt (pw_or (pt_cmpR op_lt (pv 1) pe_int (nomark _)) (pw_or1 (pt_cmpR op_gt (pv 1) (pe_glob (v := .int 1000000) (by rfl) T.g_MOST_CENTS ⟨_, rfl⟩) (nomark _))))) (pss_one ps_no) pss_nil)), ?_⟩
    exact s_when (b := false) (et_is (et_or (et_test (by walk_at "ev")) fun _ => et_test (by walk_at "ev")) (by rw [okc_b, h1]; rfl)) (fun hb => nomatch hb) fun _ H1 e1 => k H1 e1
/-! ### the prices -/
structure PriAt (K : PySem.W.Frag) (Z : Ad) (H : Hp) (p : Addr) (ns : List Int) : Prop where
  f : ∃ t, FlK K H p Z.c_Prices "_cents" (.ref t) ∧ SqT K H t (ns.map V.int)
  l : ns.length = 3
theorem PriAt.mono {H H' : Hp} {p : Addr} {ns : List Int} (e : Ex H H') (h : PriAt K Z H p ns) : PriAt K Z H' p ns := ⟨let ⟨t, a, b⟩ := h.f; ⟨t, a.mono e, ex_t e b⟩, h.l⟩
theorem PriAt.inst {H : Hp} {p : Addr} {ns : List Int} (h : PriAt K Z H p ns) : ∃ dx fs, H p = some (.ins Z.c_Prices dx fs) := let ⟨_, a, _⟩ := h.f; let ⟨dx, fs, x, _⟩ := a.fl; ⟨dx, fs, x⟩
theorem three {ns : List Int} (h : ns.length = 3) : ns = [ns.getD 0 0, ns.getD 1 0, ns.getD 2 0] := by
  match ns, h with
  | [a, b, c], _ => rfl
def sp_Pinit (K : PySem.W.Frag) (Z : Ad) : Sp := fun vs H Q _ => ∃ (x dx : Addr) (a b c : Int), vs = [.ref x, .int a, .int b, .int c] ∧ H x = some (.ins Z.c_Prices dx []) ∧ flt [a, b, c] = none ∧
  ∀ H', PriAt K Z H' x [a, b, c] → (∀ b o, H b = some o → b ≠ x → H' b = some o) → Q .non H'
theorem flt_none {a b c : Int} (h : flt [a, b, c] = none) : okc a = true ∧ okc b = true ∧ okc c = true := by
  unfold flt at h
  simp only [List.getD_cons_zero, List.getD_cons_succ] at h
  split at h
  · cases h
  split at h
  · cases h
  split at h
  · cases h
  rename_i h1 h2 h3
  exact ⟨by simpa using h1, by simpa using h2, by simpa using h3⟩
theorem ok_Prices___init__ (T : Txt K mg Z) : FnOk P w K mg base CX0 4 Z.f_Prices___init__ Z.d_Prices___init__ p_Prices___init__ (sp_Pinit K Z) := by
  refine T.F_Prices___init__.ok sc_Prices___init__ (fun vs H Q E h => ?_) (fun cdv Ar outer s H vs Q E hr h => ?_)
  · obtain ⟨x, dx, a, b, c, rfl, _⟩ := h
    rfl
  · obtain ⟨x, dx, a, b, c, rfl, hx, hf, k⟩ := h
    obtain ⟨f1, f2, f3⟩ := flt_none hf
    have cl := T.cl_Prices
    refine ⟨_, (pss_cons (ps_expr (pe_call (ok_check_price T) (hr.mono (by decide)) (by rfl) T.g_check_price T.F_check_price.kp T.b_check_price .nil pass0 (pa_cons pe_str (pa_cons (pv 1) pa_nil))))
      (pss_cons (ps_expr (pe_call (ok_check_price T) (hr.mono (by decide)) (by rfl) T.g_check_price T.F_check_price.kp T.b_check_price .nil pass0 (pa_cons pe_str (pa_cons (pv 2) pa_nil))))
      (pss_cons (ps_expr (pe_call (ok_check_price T) (hr.mono (by decide)) (by rfl) T.g_check_price T.F_check_price.kp T.b_check_price .nil pass0 (pa_cons pe_str (pa_cons (pv 3) pa_nil))))
      (pss_one (ps_fld (pv 0) (pe_tup (pa_cons (pv 1) (pa_cons (pv 2) (pa_cons (pv 3) pa_nil)))) rfl))))), ?_⟩
    refine q_drop (ev_call (ea_cons ev_c (ea_cons (ev_var rfl) ea_nil)) (spv_cp f1)) fun H1 e1 => ?_
    refine q_drop (ev_call (ea_cons ev_c (ea_cons (ev_var rfl) ea_nil)) (spv_cp f2)) fun H2 e2 => ?_
    refine q_drop (ev_call (ea_cons ev_c (ea_cons (ev_var rfl) ea_nil)) (spv_cp f3)) fun H3 e3 => ?_
    have e13 := (e1.trans e2).trans e3
    refine s_fldU (xs := [.int a, .int b, .int c]) (eu_tup (ea_cons (ev_var rfl) (ea_cons (ev_var rfl) (ea_cons (ev_var rfl) ea_nil))) (by show 3 ≤ 100000; decide)) (fun _ _ => ev_var rfl) (e13 _ _ hx) cl T.na_Prices__cents (by decide) fun p H4 hp e4 h4 => ?_
    have npx : p ≠ x := fun z => by rw [z, e13 _ _ hx] at hp; cases hp
    refine k _ ⟨⟨p, flk_of upd_same cl T.na_Prices__cents rfl, st_of ((upd_ne npx).trans h4)⟩, rfl⟩ fun b o hb hne => (upd_ne hne).trans (e4 _ _ (e13 _ _ hb))
/-- Prices(..) of good numbers, of wrong ones -/
theorem r_pri {σ : L2.St} {H : Hp} {t : TA} {a b c : Int} {E : XK} {Q : VK} {sp : Sp} (hsp : ∀ vs H Q E, sp_Pinit K Z vs H Q E → sp vs H Q E) (ht : EvA t σ H [.int a, .int b, .int c]) (hf : flt [a, b, c] = none) (k : ∀ p H2, H p = none → Ex H H2 → PriAt K Z H2 p [a, b, c] → Q (.ref p) H2) :
    tMake Z.c_Prices sp [] E t σ H Q := ht H (Ex.refl H) _ fun H1 e1 x dx hx hdx hne => by
  have eN : Ex H1 (upd (upd H1 dx (.own x)) x (.ins Z.c_Prices dx [])) := fun b o hbo => by
    rw [upd_ne (ne_of_none hbo hx), upd_ne (ne_of_none hbo hdx)]; exact hbo
  exact hsp _ _ _ _ ⟨x, dx, a, b, c, rfl, upd_same, hf, fun H2 hP hk => ⟨rfl, k x H2 (fresh_back e1 hx) (e1.trans fun b o hbo => hk b o (eN b o hbo) (ne_of_none hbo hx)) hP⟩⟩
def sp_cents (K : PySem.W.Frag) (Z : Ad) : Sp := fun vs H Q _ => ∃ (p : Addr) (ns : List Int), vs = [.ref p] ∧ PriAt K Z H p ns ∧ ∀ t H', Ex H H' → SqT K H' t (ns.map V.int) → Q (.ref t) H'
theorem ok_Prices_cents (T : Txt K mg Z) : FnOk P w K mg base CX0 1 Z.f_Prices_cents Z.d_Prices_cents p_Prices_cents (sp_cents K Z) := by
  refine T.F_Prices_cents.ok sc_Prices_cents (fun vs H Q E h => ?_) (fun cdv Ar outer s H vs Q E hr h => ?_)
  · obtain ⟨p, ns, rfl, _⟩ := h
    rfl
  · obtain ⟨p, ns, rfl, hp, k⟩ := h
    obtain ⟨t, hf, ht⟩ := hp.f
    refine ⟨_, (pss_one (ps_ret (pe_fldK K rfl (pv 0) rfl))), ?_⟩
    exact s_ret (ev_fldK (ev_var rfl) hf) fun H1 e1 => k t H1 e1 (ex_t e1 ht)
def gain (ns : List Int) (b s t : Int) : Int := s * ns.getD 0 0 - b * ns.getD 1 0 - t * ns.getD 2 0
def sp_Pcall (K : PySem.W.Frag) (Z : Ad) : Sp := fun vs H Q _ => ∃ (p : Addr) (ns : List Int) (b s t : Int), vs = [.ref p, .int b, .int s, .int t] ∧ PriAt K Z H p ns ∧ (∀ k, 0 ≤ ns.getD k 0 ∧ ns.getD k 0 ≤ 1000000) ∧ RetV (.int (gain ns b s t)) H Q
theorem ok_Prices___call__ (T : Txt K mg Z) : FnOk P w K mg base CX0 1 Z.f_Prices___call__ Z.d_Prices___call__ p_Prices___call__ (sp_Pcall K Z) := by
  refine T.F_Prices___call__.ok sc_Prices___call__ (fun vs H Q E h => ?_) (fun cdv Ar outer s H vs Q E hr h => ?_)
  · obtain ⟨p, ns, b, s, t, rfl, _⟩ := h
    rfl
  · obtain ⟨p, ns, b, s, t, rfl, hp, hn, k⟩ := h
    obtain ⟨tt, hf, ht⟩ := hp.f
    have e3 := three hp.l
    have n0 := hn 0
    have n1 := hn 1
    have n2 := hn 2
    rw [e3] at ht
    refine ⟨_, (pss_cons (ps_asg (pe_fldK K rfl (pv 0) rfl) (by exact (pg_tupK K (n := 3) rfl rfl (pgs_cons (pg_name (i := 4) sc_Prices___call__.nd rfl (Or.inl rfl)) (pgs_cons (pg_name (i := 5) sc_Prices___call__.nd rfl (Or.inl rfl)) (pgs_cons (pg_name (i := 6) sc_Prices___call__.nd rfl (Or.inl rfl)) pgs_nil))))))
      (pss_one (ps_ret (pe_op op_sub (pe_op op_sub (pe_op op_mul (pv 2) (pv 4)) (pe_op op_mul (pv 1) (pv 5))) (pe_op op_mul (pv 3) (pv 6)))))), ?_⟩
    refine q_un3 (ev_fldK (ev_var rfl) hf) ht fun H1 e1 => ?_
    exact s_ret (ev_op (ev_op (ev_op (ev_var rfl) (ev_var rfl) (rv_I (wide_ok (by omega)))) (ev_op (ev_var rfl) (ev_var rfl) (rv_I (wide_ok (by omega)))) rv_I0) (ev_op (ev_var rfl) (ev_var rfl) (rv_I (wide_ok (by omega)))) rv_I0) fun H2 e2 => k H2 (e1.trans e2)
section
variable {K : PySem.W.Frag} {Z : Ad} {X : Cx} {σ : L2.St} {H : Hp} {ta : TE} {t : TA} {p : Addr} {as : List Int} {E : XK}
theorem ev_pcall {b s u : Int} (h : Ev ta σ H (.ref p)) (hp : PriAt K Z H p as) (ht : EvA t σ H [.int b, .int s, .int u]) (hn : ∀ k, 0 ≤ as.getD k 0 ∧ as.getD k 0 ≤ 1000000) : Ev (StX.tCallO X Z.c_Prices (sp_Pcall K Z) E ta t) σ H (.int (gain as b s u)) := fun H1 e Q k =>
  h H1 e _ fun H2 e2 => ⟨p, rfl, ht H2 (e.trans e2) _ fun H3 e3 => ⟨.inr (hp.mono ((e.trans e2).trans e3)).inst, p, as, b, s, u, rfl, hp.mono ((e.trans e2).trans e3), hn, fun H4 e4 => k H4 ((e2.trans e3).trans e4)⟩⟩
end
end Sw
namespace Sw
open PySem PySem.Spec PyProof.Rows L2 Evl LamX NdefX
local macro_rules | `(tactic| walk_at "ev") => `(tactic| first
  | exact ev_c
  | exact ev_var rfl
  | ((with_reducible show Ev (tCB rMax2 _) _ _ _); exact ev_maxi (by walk_at "ev") (by walk_at "ev"))
  | ((with_reducible show Ev (tCB rMn _) _ _ _); exact ev_min2 (by walk_at "ev") (by walk_at "ev"))
  | ((with_reducible show Ev (tUn _ _) _ _ _); exact ev_un (by walk_at "ev") ru_neg)
  | ((with_reducible show Ev (tFld _ _ _) _ _ _); exact ev_fldK (by walk_at "ev") (by assumption))
  | ((with_reducible show Ev (tOp (rI0 _) _ _) _ _ _); exact ev_op (by walk_at "ev") (by walk_at "ev") rv_I0)
  | ((with_reducible show Ev (tOp rEq _ _) _ _ _); exact ev_op (by walk_at "ev") (by walk_at "ev") (rv_eq rfl))
  | ((with_reducible show Ev (tOp rNe _ _) _ _ _); exact ev_op (by walk_at "ev") (by walk_at "ev") (rv_ne rfl)))

variable {P : Program} {w : World} {K : PySem.W.Frag} {mg : Str → Option Value} {base : Heap} {Z : Ad}
/-- what is raised: an error of prices, its dict -/
def RaiP (Z : Ad) (p : Str) (H : Hp) (E : XK) : Prop := ∀ d H', Ex H H' → H d = none → H' d = some (.xd [("part", .str p)]) → E (.ref Z.c_InvalidPrices) (some d) H'
theorem RaiP.mono {p : Str} {H H' : Hp} {E : XK} (e : Ex H H') (h : RaiP Z p H E) : RaiP Z p H' E := fun d H2 e2 n x => h d H2 (e.trans e2) (fresh_back e n) x
def sp_IP (Z : Ad) : Sp := fun vs H Q _ => ∃ (a : Addr) (p : Str), vs = [.ref a, .str p] ∧ p.length ≤ 1000 ∧ H a = some (exo a Z.c_InvalidPrices none) ∧
  ∀ dx H', H dx = none → dx ≠ a → H' a = some (exo a Z.c_InvalidPrices (some dx)) → H' dx = some (exd dx [("part", .str p)]) → (∀ b o, H b = some o → b ≠ a → H' b = some o) → Q .non H'
theorem ok_InvalidPrices___init__ (T : Txt K mg Z) (hP : P = Z.P) : FnOk P w K mg base L2.CX0 1 Z.f_InvalidPrices___init__ Z.d_InvalidPrices___init__ p_InvalidPrices___init__ (sp_IP Z) := by
  subst hP
  refine sup_fn (k := 0) (CX := L2.CX0) T.xs_InvalidPrices T.ox_InvalidPrices rfl sc_InvalidPrices___init__ rfl rfl rfl rfl T.b_super (fun _ => rfl) (fun _ _ => rfl) (fun _ => rfl) (fun vs H Q E ⟨a, p, e, _⟩ => by rw [e]; rfl) (fun A outer s H vs Q E hr ⟨a, p, e, h0, ha, k⟩ => ?_)
  subst e
  refine ⟨_, _, a, [.str p], pa_cons (pe_joined (.cons pe_str (.cons (pe_fmt (pv 1)) .nil))) pa_nil, pss_one (ps_ost (pv 0) (pv 1)), rfl, ha, ?_⟩
  have hz := sizeLine_eq
  have l1 : (Str.ofString "wrong ").length = 6 := by decide +kernel
  have l0 : Str.empty.length = 0 := rfl
  refine ⟨_, rfl, ?_, _, rfl, .inl ⟨p, rfl, by omega, p, rfl, ?_, by show 1 ≤ 1000; decide, ha, ?_⟩⟩
  · rw [Str.length_append]; omega
  · simp only [Str.length_append]; omega
  refine ⟨_, rfl, _, rfl, a, Z.c_InvalidPrices, rfl, T.ox_InvalidPrices, T.na_InvalidPrices_part, .inl ⟨ha, fun dx hd ne => k dx _ hd ne upd_same ?_ fun b o q n => ?_⟩⟩
  · exact (upd_ne ne).trans upd_same
  · rw [upd_ne n, upd_ne (ne_of_none q hd)]; exact q
theorem rs_pri {σ : L2.St} {H : Hp} {t : TA} {p : Str} {E : XK} (ha : EvA t σ H [.str p]) (h0 : p.length ≤ 1000) (k : RaiP Z p H E) : tMkO Z.c_InvalidPrices (sp_IP Z) [] t σ H (fun cls d H' => E cls d H') :=
  ha H (Ex.refl H) _ fun H1 e1 => ⟨by show 1 ≤ 1000; decide, fun a na => ⟨a, p, rfl, h0, upd_same, fun dx H' hd ne x1 x2 x3 => by
    rw [upd_ne ne] at hd
    refine ⟨rfl, dx, _, x1, x2, hd, k dx _ (fun b o q => ?_) (fresh_back e1 hd) upd_same⟩
    have q1 := e1 b o q
    rw [upd_ne (ne_of_none q1 hd), del_ne (ne_of_none q1 na)]
    exact x3 b o ((upd_ne (ne_of_none q1 na)).trans q1) (ne_of_none q1 na)⟩⟩
def sp_cpX (Z : Ad) : Sp := fun vs H _ E => ∃ (s : Str) (c : Int), vs = [.str s, .int c] ∧ s.length ≤ 1000 ∧ okc c = false ∧ RaiP Z s H E
theorem okX_check_price (T : Txt K mg Z) (hP : P = Z.P) : FnOk P w K mg base (L2.CX P w) 3 Z.f_check_price Z.d_check_price p_check_price (sp_cpX Z) := by
  refine T.F_check_price.okX sc_check_price (fun vs H Q E h => ?_) (fun cdv Ar outer s H vs Q E hr h => ?_)
  · obtain ⟨s, c, rfl, _⟩ := h
    rfl
  · obtain ⟨s, c, rfl, hs, h1, k⟩ := h
    refine ⟨_, (pss_one (ps_if (PW.pt (pw_or (pt_cmpR op_lt (pv 1) pe_int (nomark _)) (pw_or1 (pt_cmpR op_gt (pv 1) (pe_glob (v := .int 1000000) (by rfl) T.g_MOST_CENTS ⟨_, rfl⟩) (nomark _))))) (pss_one (ps_raise rfl (takes_of rfl rfl rfl rfl) (pmk_oex T.ox_InvalidPrices T.xi_InvalidPrices T.xt_InvalidPrices (ok_InvalidPrices___init__ T hP) (hr.mono (by decide)) T.b_InvalidPrices___init__ .nil pass0 (by rfl) T.g_InvalidPrices (pa_cons (pv 0) pa_nil)))) pss_nil)), ?_⟩
    exact s_when (b := true) (et_is (et_or (et_test (by walk_at "ev")) fun _ => et_test (by walk_at "ev")) (by rw [okc_b, h1]; rfl)) (fun _ H1 e1 => rs_pri (ea_cons (ev_var rfl) ea_nil) hs (k.mono e1)) fun hb => nomatch hb
theorem okM_check_price (T : Txt K mg Z) (hP : P = Z.P) : FnOk P w K mg base (L2.CX P w) 3 Z.f_check_price Z.d_check_price p_check_price (spOr sp_cp (sp_cpX Z)) := fn_or (fn_lift (ok_check_price T)) (okX_check_price T hP)
def sp_PinitX (Z : Ad) : Sp := fun vs H _ E => ∃ (x : Addr) (a b c : Int) (p : Str), vs = [.ref x, .int a, .int b, .int c] ∧ flt [a, b, c] = some p ∧ RaiP Z p H E
theorem okX_Prices___init__ (T : Txt K mg Z) (hP : P = Z.P) : FnOk P w K mg base (L2.CX P w) 4 Z.f_Prices___init__ Z.d_Prices___init__ p_Prices___init__ (sp_PinitX Z) := by
  refine T.F_Prices___init__.okX sc_Prices___init__ (fun vs H Q E h => ?_) (fun cdv Ar outer s H vs Q E hr h => ?_)
  · obtain ⟨x, a, b, c, p, rfl, _⟩ := h
    rfl
  · obtain ⟨x, a, b, c, p, rfl, hf, k⟩ := h
    refine ⟨_, (pss_cons (ps_expr (pe_call (okM_check_price T hP) (hr.mono (by decide)) (by rfl) T.g_check_price T.F_check_price.kp T.b_check_price .nil (passes_call (takes_of rfl rfl rfl rfl) (fun _ _ _ _ h => h)) (pa_cons pe_str (pa_cons (pv 1) pa_nil))))
      (pss_cons (ps_expr (pe_call (okM_check_price T hP) (hr.mono (by decide)) (by rfl) T.g_check_price T.F_check_price.kp T.b_check_price .nil (passes_call (takes_of rfl rfl rfl rfl) (fun _ _ _ _ h => h)) (pa_cons pe_str (pa_cons (pv 2) pa_nil))))
      (pss_cons (ps_expr (pe_call (okM_check_price T hP) (hr.mono (by decide)) (by rfl) T.g_check_price T.F_check_price.kp T.b_check_price .nil (passes_call (takes_of rfl rfl rfl rfl) (fun _ _ _ _ h => h)) (pa_cons pe_str (pa_cons (pv 3) pa_nil))))
      (pss_one (ps_fld (pv 0) (pe_tup (pa_cons (pv 1) (pa_cons (pv 2) (pa_cons (pv 3) pa_nil)))) rfl))))), ?_⟩
    unfold flt at hf
    simp only [List.getD_cons_zero, List.getD_cons_succ] at hf
    by_cases f1 : okc a = false
    · rw [if_pos f1] at hf; cases hf
      exact q_rz (ea_cons ev_c (ea_cons (ev_var rfl) ea_nil)) fun H1 e1 Q => .inr ⟨_, _, rfl, pf_len 0, f1, k.mono e1⟩
    rw [if_neg f1] at hf
    refine q_drop (ev_call (ea_cons ev_c (ea_cons (ev_var rfl) ea_nil)) (spv_or (spv_cp (by simpa using f1)))) fun H1 e1 => ?_
    by_cases f2 : okc b = false
    · rw [if_pos f2] at hf; cases hf
      exact q_rz (ea_cons ev_c (ea_cons (ev_var rfl) ea_nil)) fun H2 e2 Q => .inr ⟨_, _, rfl, pf_len 1, f2, k.mono (e1.trans e2)⟩
    rw [if_neg f2] at hf
    refine q_drop (ev_call (ea_cons ev_c (ea_cons (ev_var rfl) ea_nil)) (spv_or (spv_cp (by simpa using f2)))) fun H2 e2 => ?_
    by_cases f3 : okc c = false
    · rw [if_pos f3] at hf; cases hf
      exact q_rz (ea_cons ev_c (ea_cons (ev_var rfl) ea_nil)) fun H3 e3 Q => .inr ⟨_, _, rfl, pf_len 2, f3, k.mono ((e1.trans e2).trans e3)⟩
    rw [if_neg f3] at hf
    cases hf
theorem okM_Prices___init__ (T : Txt K mg Z) (hP : P = Z.P) : FnOk P w K mg base (L2.CX P w) 4 Z.f_Prices___init__ Z.d_Prices___init__ p_Prices___init__ (spOr (sp_Pinit K Z) (sp_PinitX Z)) := fn_or (fn_lift (ok_Prices___init__ T)) (okX_Prices___init__ T hP)
theorem r_priX {σ : L2.St} {H : Hp} {t : TA} {a b c : Int} {p : Str} {E : XK} {Q : VK} {sp : Sp} (ht : EvA t σ H [.int a, .int b, .int c]) (hf : flt [a, b, c] = some p) (k : RaiP Z p H E) : tMake Z.c_Prices (spOr sp (sp_PinitX Z)) [] E t σ H Q := ht H (Ex.refl H) _ fun H1 e1 x dx hx hdx hne => by
  have eN : Ex H1 (upd (upd H1 dx (.own x)) x (.ins Z.c_Prices dx [])) := fun b o hbo => by
    rw [upd_ne (ne_of_none hbo hx), upd_ne (ne_of_none hbo hdx)]; exact hbo
  exact .inr ⟨x, a, b, c, p, rfl, hf, k.mono (e1.trans eN)⟩
/-! #### sums and products -/
def addL (as bs : List Int) : List Int := [as.getD 0 0 + bs.getD 0 0, as.getD 1 0 + bs.getD 1 0, as.getD 2 0 + bs.getD 2 0]
def mulL (as : List Int) (n : Int) : List Int := [as.getD 0 0 * n, as.getD 1 0 * n, as.getD 2 0 * n]
/-- prices, or an error -/
def Res (K : PySem.W.Frag) (Z : Ad) (ns : List Int) (H : Hp) (Q : VK) (E : XK) : Prop := (flt ns = none → ∀ p H', H p = none → Ex H H' → PriAt K Z H' p ns → Q (.ref p) H') ∧ (∀ s, flt ns = some s → RaiP Z s H E)
theorem Res.mono {ns : List Int} {H H' : Hp} {Q : VK} {E : XK} (e : Ex H H') (h : Res K Z ns H Q E) : Res K Z ns H' Q E := ⟨fun z p H2 n e2 hp => h.1 z p H2 (fresh_back e n) (e.trans e2) hp, fun s z => (h.2 s z).mono e⟩
theorem r_res {σ : L2.St} {H : Hp} {t : TA} {a b c : Int} {E : XK} {Q : VK} (ht : EvA t σ H [.int a, .int b, .int c]) (r : Res K Z [a, b, c] H Q E) : tMake Z.c_Prices (spOr (sp_Pinit K Z) (sp_PinitX Z)) [] E t σ H Q := by
  cases hf : flt [a, b, c] with
  | none => exact r_pri (fun _ _ _ _ h => .inl h) ht hf (r.1 hf)
  | some s => exact r_priX ht hf (r.2 s hf)
def sp_Padd (K : PySem.W.Frag) (Z : Ad) : Sp := fun vs H Q E => ∃ (p q : Addr) (as bs : List Int), vs = [.ref p, .ref q] ∧ PriAt K Z H p as ∧ PriAt K Z H q bs ∧ Res K Z (addL as bs) H Q E
theorem okX_Prices___add__ (T : Txt K mg Z) (hP : P = Z.P) : FnOk P w K mg base (L2.CX P w) 6 Z.f_Prices___add__ Z.d_Prices___add__ p_Prices___add__ (sp_Padd K Z) := by
  refine T.F_Prices___add__.okX sc_Prices___add__ (fun vs H Q E h => ?_) (fun cdv Ar outer s H vs Q E hr h => ?_)
  · obtain ⟨p, q, as, bs, rfl, _⟩ := h
    rfl
  · obtain ⟨p, q, as, bs, rfl, hp, hq, r⟩ := h
    obtain ⟨tp, fp, hp'⟩ := hp.f
    obtain ⟨tq, fq, hq'⟩ := hq.f
    rw [three hp.l] at hp'
    rw [three hq.l] at hq'
    refine ⟨_, (pss_cons (ps_asg (pe_fldK K rfl (pv 0) rfl) (by exact (pg_tupK K (n := 3) rfl rfl (pgs_cons (pg_name (i := 2) sc_Prices___add__.nd rfl (Or.inl rfl)) (pgs_cons (pg_name (i := 3) sc_Prices___add__.nd rfl (Or.inl rfl)) (pgs_cons (pg_name (i := 4) sc_Prices___add__.nd rfl (Or.inl rfl)) pgs_nil))))))
      (pss_cons (ps_asg (pe_fldK K rfl (pv 1) rfl) (by exact (pg_tupK K (n := 3) rfl rfl (pgs_cons (pg_name (i := 5) sc_Prices___add__.nd rfl (Or.inl rfl)) (pgs_cons (pg_name (i := 6) sc_Prices___add__.nd rfl (Or.inl rfl)) (pgs_cons (pg_name (i := 7) sc_Prices___add__.nd rfl (Or.inl rfl)) pgs_nil))))))
      (pss_one (ps_ret (pe_make T.mk_Prices (okM_Prices___init__ T hP) (hr.mono (by decide)) (by rfl) T.g_Prices T.b_Prices___init__ .nil (passes_call (takes_of rfl rfl rfl rfl) (fun _ _ _ _ h => h)) (pa_cons (pe_op op_add (pv 2) (pv 5)) (pa_cons (pe_op op_add (pv 3) (pv 6)) (pa_cons (pe_op op_add (pv 4) (pv 7)) pa_nil)))))))), ?_⟩
    refine q_un3 (ev_fldK (ev_var rfl) fp) hp' fun H1 e1 => ?_
    refine q_un3 (ev_fldK (ev_var rfl) (fq.mono e1)) (ex_t e1 hq') fun H2 e2 => ?_
    exact r_res (ea_cons (ev_op (ev_var rfl) (ev_var rfl) rv_I0) (ea_cons (ev_op (ev_var rfl) (ev_var rfl) rv_I0) (ea_cons (ev_op (ev_var rfl) (ev_var rfl) rv_I0) ea_nil))) (r.mono (e1.trans e2))
def sp_Pmul (K : PySem.W.Frag) (Z : Ad) : Sp := fun vs H Q E => ∃ (p : Addr) (as : List Int) (n : Int), vs = [.ref p, .int n] ∧ PriAt K Z H p as ∧ n.natAbs < 2 ^ 60 ∧ Res K Z (mulL as n) H Q E
theorem okX_Prices___mul__ (T : Txt K mg Z) (hP : P = Z.P) : FnOk P w K mg base (L2.CX P w) 6 Z.f_Prices___mul__ Z.d_Prices___mul__ p_Prices___mul__ (sp_Pmul K Z) := by
  refine T.F_Prices___mul__.okX sc_Prices___mul__ (fun vs H Q E h => ?_) (fun cdv Ar outer s H vs Q E hr h => ?_)
  · obtain ⟨p, as, n, rfl, _⟩ := h
    rfl
  · obtain ⟨p, as, n, rfl, hp, hn, r⟩ := h
    obtain ⟨tp, fp, hp'⟩ := hp.f
    rw [three hp.l] at hp'
    refine ⟨_, (pss_cons (ps_asg (pe_fldK K rfl (pv 0) rfl) (by exact (pg_tupK K (n := 3) rfl rfl (pgs_cons (pg_name (i := 2) sc_Prices___mul__.nd rfl (Or.inl rfl)) (pgs_cons (pg_name (i := 3) sc_Prices___mul__.nd rfl (Or.inl rfl)) (pgs_cons (pg_name (i := 4) sc_Prices___mul__.nd rfl (Or.inl rfl)) pgs_nil))))))
      (pss_one (ps_ret (pe_make T.mk_Prices (okM_Prices___init__ T hP) (hr.mono (by decide)) (by rfl) T.g_Prices T.b_Prices___init__ .nil (passes_call (takes_of rfl rfl rfl rfl) (fun _ _ _ _ h => h)) (pa_cons (pe_op op_mul (pv 2) (pv 1)) (pa_cons (pe_op op_mul (pv 3) (pv 1)) (pa_cons (pe_op op_mul (pv 4) (pv 1)) pa_nil))))))), ?_⟩
    refine q_un3 (ev_fldK (ev_var rfl) fp) hp' fun H1 e1 => ?_
    exact r_res (ea_cons (ev_op (ev_var rfl) (ev_var rfl) (rv_I (wide_ok hn))) (ea_cons (ev_op (ev_var rfl) (ev_var rfl) (rv_I (wide_ok hn))) (ea_cons (ev_op (ev_var rfl) (ev_var rfl) (rv_I (wide_ok hn))) ea_nil))) (r.mono e1)
/-! #### equal -/
theorem eqvA_dec : ∀ as bs : List Int, PyData.eqvAll (as.map PyData.int) (bs.map PyData.int) = decide (as = bs)
  | [], [] => rfl
  | [], b :: r => rfl
  | a :: r, [] => rfl
  | a :: r, b :: s => by
    show (PyData.eqv (.int a) (.int b) && PyData.eqvAll (r.map PyData.int) (s.map PyData.int)) = _
    rw [eqvA_dec r s]
    by_cases h : a = b <;> by_cases h2 : r = s <;> simp [PyData.eqv, h, h2]
def sp_Peq (K : PySem.W.Frag) (Z : Ad) : Sp := fun vs H Q _ => ∃ (p q : Addr) (as : List Int), vs = [.ref p, .ref q] ∧ PriAt K Z H p as ∧ ((∃ bs, PriAt K Z H q bs ∧ RetV (.bl (decide (as = bs))) H Q) ∨ ∃ ys, SqT K H q ys ∧ RetV (.bl false) H Q)
section
variable {σ : L2.St} {H : Hp} {ta tb : TE} {a b : Addr} {as bs : List Int} {x : V} {ty : Value} {C : Addr} {r : Bool}
theorem ev_eqTT (h1 : Ev ta σ H (.ref a)) (h2 : Ev tb σ H (.ref b)) (x1 : SqT K H a (as.map V.int)) (x2 : SqT K H b (bs.map V.int)) : Ev (tOp (rEqD K) ta tb) σ H (.bl (decide (as = bs))) := fun H1 e Q k => h1 H1 e _ fun H2 e2 => h2 H2 (e.trans e2) _ fun H3 e3 =>
  ⟨_, _, .tup (ex_t ((e.trans e2).trans e3) x1) (dp_ints as), .tup (ex_t ((e.trans e2).trans e3) x2) (dp_ints bs), tup_shaped as, tup_shaped bs, by
    have z : PyData.eqv (.tuple (as.map PyData.int)) (.tuple (bs.map PyData.int)) = decide (as = bs) := eqvA_dec as bs
    rw [z]; exact k H3 (e2.trans e3)⟩
theorem ev_isC (h : Ev ta σ H x) (t : ∀ H1, Ex H H1 → TyX K H1 x ty) (e : PySem.W.kitOne K ty (.ref C) = some r) : Ev (tCB (rIsi K) (tCons ta (tCons (tC (.ref C)) tNil))) σ H (.bl r) := fun H1 e1 Q q =>
  h H1 e1 _ fun H2 e2 => ⟨x, .ref C, ty, .ref C, r, rfl, .own C, t H2 (e1.trans e2), e, q H2 e2⟩
theorem ev_isB {n : String} (h : Ev ta σ H x) (t : ∀ H1, Ex H H1 → TyX K H1 x ty) (e : PySem.W.kitOne K ty (.type n) = some r) : Ev (tCB (rIsi K) (tCons ta (tCons (tC (.ty n)) tNil))) σ H (.bl r) := fun H1 e1 Q q =>
  h H1 e1 _ fun H2 e2 => ⟨x, .ty n, ty, .type n, r, rfl, .ty n, t H2 (e1.trans e2), e, q H2 e2⟩
end
theorem pri_ty (T : Txt K mg Z) {H : Hp} {p : Addr} {ns : List Int} (h : PriAt K Z H p ns) : ∀ H1, Ex H H1 → TyX K H1 (.ref p) (.ref Z.c_Prices) := fun H1 e =>
  let ⟨_, _, hi⟩ := h.inst; .base (.ins (e _ _ hi) T.in_Prices.cl T.in_Prices.ha T.in_Prices.hn T.in_Prices.htk T.in_Prices.hm)
theorem tup_ty {H : Hp} {p : Addr} {ys : List V} (h : SqT K H p ys) : ∀ H1, Ex H H1 → TyX K H1 (.ref p) (.type "tuple") := fun H1 e => by
  rcases ex_t e h with (h | ⟨o, h⟩) | ⟨o, its, k, h1, h2, _⟩
  · exact .base (.tup h)
  · exact .fTuple h
  · exact .kTuple h1 h2
theorem ok_Prices___eq__ (T : Txt K mg Z) : FnOk P w K mg base CX0 1 Z.f_Prices___eq__ Z.d_Prices___eq__ p_Prices___eq__ (sp_Peq K Z) := by
  refine T.F_Prices___eq__.ok sc_Prices___eq__ (fun vs H Q E h => ?_) (fun cdv Ar outer s H vs Q E hr h => ?_)
  · obtain ⟨p, q, as, rfl, _⟩ := h
    rfl
  · obtain ⟨p, q, as, rfl, hp, h⟩ := h
    refine ⟨_, (pss_one (ps_ret (pe_and (pe_callB (r := rIsi K) (call_isi) (by rfl) T.b_isinstance boot_isinstance (pa_cons (pv 1) (pa_cons (pe_glob (by rfl) T.g_Prices (v := .ref Z.c_Prices) rfl) pa_nil))) (pe_one (pe_cmpR (op_eqD hr.units) (pe_fldK K rfl (pv 0) rfl) (pe_fldK K rfl (pv 1) rfl) (nomark _)))))), ?_⟩
    obtain ⟨tp, fp, hp'⟩ := hp.f
    rcases h with ⟨bs, hq, k⟩ | ⟨ys, hy, k⟩
    · obtain ⟨tq, fq, hq'⟩ := hq.f
      exact s_ret (v := .bl (decide (as = bs))) (ev_andV (a := true) (ev_isC (ev_var rfl) (pri_ty T hq) T.in_Prices.me) fun _ => ev_eqTT (ev_fldK (ev_var rfl) fp) (ev_fldK (ev_var rfl) fq) hp' hq') k
    · exact s_ret (v := .bl false) (ev_andV (a := false) (b := true) (ev_isC (ev_var rfl) (tup_ty hy) T.ow_Prices.kt) fun z => nomatch z) k
end Sw
namespace Sw
open PySem PySem.Spec PyProof.Rows L2 Evl
local macro_rules | `(tactic| walk_at "ev") => `(tactic| first
  | exact ev_c
  | exact ev_var rfl
  | ((with_reducible show Ev (tCB rMax2 _) _ _ _); exact ev_maxi (by walk_at "ev") (by walk_at "ev"))
  | ((with_reducible show Ev (tCB rMn _) _ _ _); exact ev_min2 (by walk_at "ev") (by walk_at "ev"))
  | ((with_reducible show Ev (tUn _ _) _ _ _); exact ev_un (by walk_at "ev") ru_neg)
  | ((with_reducible show Ev (tFld _ _ _) _ _ _); exact ev_fldK (by walk_at "ev") (by assumption))
  | ((with_reducible show Ev (tOp (rI0 _) _ _) _ _ _); exact ev_op (by walk_at "ev") (by walk_at "ev") rv_I0)
  | ((with_reducible show Ev (tOp rEq _ _) _ _ _); exact ev_op (by walk_at "ev") (by walk_at "ev") (rv_eq rfl))
  | ((with_reducible show Ev (tOp rNe _ _) _ _ _); exact ev_op (by walk_at "ev") (by walk_at "ev") (rv_ne rfl)))

/-! ### isinstance, and two values that are alike -/
def Tyn (K : PySem.W.Frag) (H : Hp) (x : V) (n : String) : Prop := (∃ i, x = .int i ∧ n = "int") ∨ (x = .non ∧ n = "NoneType") ∨ (∃ a xs, x = .ref a ∧ SqT K H a xs ∧ n = "tuple") ∨ (∃ a xs, x = .ref a ∧ SqL K H a xs ∧ n = "list")
section
variable {K : PySem.W.Frag} {σ : L2.St} {H H' : Hp} {ta tb te tx : TE} {x y z v : V} {a b : Addr} {xs ys : List V} {n m : String} {r : Bool}
theorem Tyn.mono (e : Ex H H') (h : Tyn K H x n) : Tyn K H' x n := by
  rcases h with h | h | ⟨a, xs, h1, h2, h3⟩ | ⟨a, xs, h1, h2, h3⟩
  · exact .inl h
  · exact .inr (.inl h)
  · exact .inr (.inr (.inl ⟨a, xs, h1, ex_t e h2, h3⟩))
  · exact .inr (.inr (.inr ⟨a, xs, h1, ex_l e h2, h3⟩))
theorem Tyn.ty (h : Tyn K H x n) : TyX K H x (.type n) := by
  rcases h with ⟨i, rfl, rfl⟩ | ⟨rfl, rfl⟩ | ⟨a, xs, rfl, h2, rfl⟩ | ⟨a, xs, rfl, h2, rfl⟩
  · exact .base (.int i)
  · exact .base .non
  · rcases h2 with (h | ⟨o, h⟩) | ⟨o, its, k, h1, h2, _⟩
    · exact .base (.tup h)
    · exact .fTuple h
    · exact .kTuple h1 h2
  · rcases h2 with (h | ⟨o, h⟩) | ⟨o, its, k, h1, h2, _⟩
    · exact .base (.lst h)
    · exact .base (.frz h)
    · exact .kList h1 h2
theorem ev_isi (h : Ev ta σ H x) (ty : Tyn K H x n) (e : kitB n m = some r) : Ev (tCB (rIsi K) (tCons ta (tCons (tC (.ty m)) tNil))) σ H (.bl r) := fun H1 e1 Q q =>
  h H1 e1 _ fun H2 e2 => ⟨x, .ty m, .type n, .type m, r, rfl, .ty m, (ty.mono (e1.trans e2)).ty, kit_ty e, q H2 e2⟩
theorem ev_isiT {r1 r2 : Bool} (h : Ev ta σ H x) (ty : Tyn K H x n) (e : kitB n "tuple" = some r1) (e' : kitB n "list" = some r2) : Ev (tCB (rIsiT K) (tCons ta (tCons (tTup (tCons (tC (.ty "tuple")) (tCons (tC (.ty "list")) tNil))) tNil))) σ H (.bl (r1 || r2)) := fun H1 e1 Q q =>
  h H1 e1 _ fun H2 e2 => ⟨by show 2 ≤ sizeLine; decide, fun p hp => ⟨x, p, [.ty "tuple", .ty "list"], .type n, [.type "tuple", .type "list"], r1 || r2, rfl, upd_same, .cons (.ty _) (.cons (.ty _) .nil), (ty.mono ((e1.trans e2).trans (Ex.new hp))).ty, by
    refine kitAny_cons (kit_ty e) (fun h1 => ?_) (fun h1 => by rw [h1]; rfl)
    refine kitAny_cons (kit_ty e') (fun h2 => ?_) (fun h2 => by rw [h1, h2]; rfl)
    rw [h1, h2]; exact kitAny_nil, q _ (e2.trans (Ex.new hp))⟩⟩
end
def AlS (x y : V) : Prop := (∃ i, x = .int i ∧ y = .int i) ∨ (x = .non ∧ y = .non)
/-- x and y stand for equal data, at most n deep -/
def Alk (K : PySem.W.Frag) (H : Hp) : Nat → V → V → Prop
  | 0, x, y => AlS x y
  | n + 1, x, y => AlS x y ∨ ∃ a b xs ys, x = .ref a ∧ y = .ref b ∧ (SqT K H a xs ∧ SqT K H b ys ∨ SqL K H a xs ∧ SqL K H b ys) ∧ xs.length = ys.length ∧ xs.length ≤ 1000 ∧ ∀ (i : Nat) u v, xs[i]? = some u → ys[i]? = some v → Alk K H n u v
theorem Alk.mono {K : PySem.W.Frag} {H H' : Hp} (e : Ex H H') : ∀ n x y, Alk K H n x y → Alk K H' n x y
  | 0, _, _, h => h
  | n + 1, x, y, h => by
    rcases h with h | ⟨a, b, xs, ys, h1, h2, h3, h4, h5, h6⟩
    · exact .inl h
    · refine .inr ⟨a, b, xs, ys, h1, h2, ?_, h4, h5, fun i u v q1 q2 => Alk.mono e n u v (h6 i u v q1 q2)⟩
      rcases h3 with h3 | h3
      · exact .inl ⟨ex_t e h3.1, ex_t e h3.2⟩
      · exact .inr ⟨ex_l e h3.1, ex_l e h3.2⟩
def sp_same (K : PySem.W.Frag) (n : Nat) : Sp := fun vs H Q _ => ∃ x y, vs = [x, y] ∧ Alk K H n x y ∧ RetV (.bl true) H Q
theorem spv_same {K : PySem.W.Frag} {n : Nat} {H : Hp} {x y : V} (h : Alk K H n x y) : SpV (sp_same K n) [x, y] H (.bl true) := fun _ e _ q _ => ⟨x, y, rfl, h.mono e, q⟩
variable {P : Program} {w : World} {K : PySem.W.Frag} {mg : Str → Option Value} {base : Heap} {Z : Ad}
theorem ok__law_same (T : Txt K mg Z) (n : Nat) : FnOk P w K mg base CX0 (n + 1) Z.f__law_same Z.d__law_same p__law_same (sp_same K n) := by
  induction n with
  | zero =>
    refine T.F__law_same.ok sc__law_same (fun vs H Q E h => ?_) (fun cdv Ar outer s H vs Q E hr h => ?_)
    · obtain ⟨x, y, rfl, _⟩ := h
      rfl
    · obtain ⟨x, y, rfl, hA, k⟩ := h
      have hA : AlS x y := hA
      refine ⟨_, (pss_cons (ps_if (pt_val (pe_callB (r := rIsiT K) (call_isiT) (by rfl) T.b_isinstance boot_isinstance (pa_cons (pv 1) (pa_cons (pe_tup (pa_cons (pe_bltn (v := .ty "tuple") (by rfl) T.b_tuple boot_tuple rfl) (pa_cons (pe_bltn (v := .ty "list") (by rfl) T.b_list boot_list rfl) pa_nil))) pa_nil)))) (pss_cons ps_no
      (pss_cons ps_no
      (pss_one ps_no))) pss_nil)
      (pss_cons (ps_if (pt_cmpR op_ne (pe_callB (r := rIsi K) (call_isi) (by rfl) T.b_isinstance boot_isinstance (pa_cons (pv 0) (pa_cons (pe_bltn (v := .ty "bool") (by rfl) T.b_bool boot_bool rfl) pa_nil))) (pe_callB (r := rIsi K) (call_isi) (by rfl) T.b_isinstance boot_isinstance (pa_cons (pv 1) (pa_cons (pe_bltn (v := .ty "bool") (by rfl) T.b_bool boot_bool rfl) pa_nil))) (nomark _)) (pss_one (ps_ret pe_bl)) pss_nil)
      (pss_one (ps_ret (pe_and (pe_cmpR op_eq (pe_callB (r := rIsi K) (call_isi) (by rfl) T.b_isinstance boot_isinstance (pa_cons (pv 0) (pa_cons (pe_bltn (v := .ty "int") (by rfl) T.b_int boot_int rfl) pa_nil))) (pe_callB (r := rIsi K) (call_isi) (by rfl) T.b_isinstance boot_isinstance (pa_cons (pv 1) (pa_cons (pe_bltn (v := .ty "int") (by rfl) T.b_int boot_int rfl) pa_nil))) (nomark _)) (pe_one (pe_cmpR op_eq (pv 0) (pv 1) (nomark _)))))))), ?_⟩
      rcases hA with ⟨i, rfl, rfl⟩ | ⟨rfl, rfl⟩
      · have ty : ∀ {G : Hp}, Tyn K G (.int i) "int" := .inl ⟨i, rfl, rfl⟩
        refine q_when (b := false) (et_B (ev_isiT (n := "int") (r1 := false) (r2 := false) (ev_var rfl) ty (by decide +kernel) (by decide +kernel))) (fun hb => nomatch hb) fun _ H1 e1 => ?_
        refine q_when (b := false) (et_test (ev_is (ev_op (ev_isi (n := "int") (m := "bool") (r := false) (ev_var rfl) ty (by decide +kernel)) (ev_isi (n := "int") (m := "bool") (r := false) (ev_var rfl) ty (by decide +kernel)) (rv_ne rfl)) (by simp))) (fun hb => nomatch hb) fun _ H2 e2 => ?_
        exact s_ret (v := .bl true) (ev_andV (a := true) (b := true) (ev_is (ev_op (ev_isi (n := "int") (m := "int") (r := true) (ev_var rfl) ty (by decide +kernel)) (ev_isi (n := "int") (m := "int") (r := true) (ev_var rfl) ty (by decide +kernel)) (rv_eq rfl)) (by simp)) fun _ => ev_is (ev_op (ev_var rfl) (ev_var rfl) (rv_eq rfl)) (by simp)) fun H3 e3 => k H3 ((e1.trans e2).trans e3)
      · have ty : ∀ {G : Hp}, Tyn K G .non "NoneType" := .inr (.inl ⟨rfl, rfl⟩)
        refine q_when (b := false) (et_B (ev_isiT (n := "NoneType") (r1 := false) (r2 := false) (ev_var rfl) ty (by decide +kernel) (by decide +kernel))) (fun hb => nomatch hb) fun _ H1 e1 => ?_
        refine q_when (b := false) (et_test (ev_is (ev_op (ev_isi (n := "NoneType") (m := "bool") (r := false) (ev_var rfl) ty (by decide +kernel)) (ev_isi (n := "NoneType") (m := "bool") (r := false) (ev_var rfl) ty (by decide +kernel)) (rv_ne rfl)) (by simp))) (fun hb => nomatch hb) fun _ H2 e2 => ?_
        exact s_ret (v := .bl true) (ev_andV (a := true) (b := true) (ev_is (ev_op (ev_isi (n := "NoneType") (m := "int") (r := false) (ev_var rfl) ty (by decide +kernel)) (ev_isi (n := "NoneType") (m := "int") (r := false) (ev_var rfl) ty (by decide +kernel)) (rv_eq rfl)) (by simp)) fun _ => ev_is (ev_op (ev_var rfl) (ev_var rfl) (rv_eq rfl)) (by simp)) fun H3 e3 => k H3 ((e1.trans e2).trans e3)
  | succ n ih =>
    refine T.F__law_same.ok sc__law_same (fun vs H Q E h => ?_) (fun cdv Ar outer s H vs Q E hr h => ?_)
    · obtain ⟨x, y, rfl, _⟩ := h
      rfl
    · obtain ⟨x, y, rfl, hA, k⟩ := h
      rcases hA with hA | ⟨a, b, xs, ys, rfl, rfl, hS, hl, hz, hA⟩
      · refine ⟨_, (pss_cons (ps_if (pt_val (pe_callB (r := rIsiT K) (call_isiT) (by rfl) T.b_isinstance boot_isinstance (pa_cons (pv 1) (pa_cons (pe_tup (pa_cons (pe_bltn (v := .ty "tuple") (by rfl) T.b_tuple boot_tuple rfl) (pa_cons (pe_bltn (v := .ty "list") (by rfl) T.b_list boot_list rfl) pa_nil))) pa_nil)))) (pss_cons ps_no
      (pss_cons ps_no
      (pss_one ps_no))) pss_nil)
      (pss_cons (ps_if (pt_cmpR op_ne (pe_callB (r := rIsi K) (call_isi) (by rfl) T.b_isinstance boot_isinstance (pa_cons (pv 0) (pa_cons (pe_bltn (v := .ty "bool") (by rfl) T.b_bool boot_bool rfl) pa_nil))) (pe_callB (r := rIsi K) (call_isi) (by rfl) T.b_isinstance boot_isinstance (pa_cons (pv 1) (pa_cons (pe_bltn (v := .ty "bool") (by rfl) T.b_bool boot_bool rfl) pa_nil))) (nomark _)) (pss_one (ps_ret pe_bl)) pss_nil)
      (pss_one (ps_ret (pe_and (pe_cmpR op_eq (pe_callB (r := rIsi K) (call_isi) (by rfl) T.b_isinstance boot_isinstance (pa_cons (pv 0) (pa_cons (pe_bltn (v := .ty "int") (by rfl) T.b_int boot_int rfl) pa_nil))) (pe_callB (r := rIsi K) (call_isi) (by rfl) T.b_isinstance boot_isinstance (pa_cons (pv 1) (pa_cons (pe_bltn (v := .ty "int") (by rfl) T.b_int boot_int rfl) pa_nil))) (nomark _)) (pe_one (pe_cmpR op_eq (pv 0) (pv 1) (nomark _)))))))), ?_⟩
        rcases hA with ⟨i, rfl, rfl⟩ | ⟨rfl, rfl⟩
        · have ty : ∀ {G : Hp}, Tyn K G (.int i) "int" := .inl ⟨i, rfl, rfl⟩
          refine q_when (b := false) (et_B (ev_isiT (n := "int") (r1 := false) (r2 := false) (ev_var rfl) ty (by decide +kernel) (by decide +kernel))) (fun hb => nomatch hb) fun _ H1 e1 => ?_
          refine q_when (b := false) (et_test (ev_is (ev_op (ev_isi (n := "int") (m := "bool") (r := false) (ev_var rfl) ty (by decide +kernel)) (ev_isi (n := "int") (m := "bool") (r := false) (ev_var rfl) ty (by decide +kernel)) (rv_ne rfl)) (by simp))) (fun hb => nomatch hb) fun _ H2 e2 => ?_
          exact s_ret (v := .bl true) (ev_andV (a := true) (b := true) (ev_is (ev_op (ev_isi (n := "int") (m := "int") (r := true) (ev_var rfl) ty (by decide +kernel)) (ev_isi (n := "int") (m := "int") (r := true) (ev_var rfl) ty (by decide +kernel)) (rv_eq rfl)) (by simp)) fun _ => ev_is (ev_op (ev_var rfl) (ev_var rfl) (rv_eq rfl)) (by simp)) fun H3 e3 => k H3 ((e1.trans e2).trans e3)
        · have ty : ∀ {G : Hp}, Tyn K G .non "NoneType" := .inr (.inl ⟨rfl, rfl⟩)
          refine q_when (b := false) (et_B (ev_isiT (n := "NoneType") (r1 := false) (r2 := false) (ev_var rfl) ty (by decide +kernel) (by decide +kernel))) (fun hb => nomatch hb) fun _ H1 e1 => ?_
          refine q_when (b := false) (et_test (ev_is (ev_op (ev_isi (n := "NoneType") (m := "bool") (r := false) (ev_var rfl) ty (by decide +kernel)) (ev_isi (n := "NoneType") (m := "bool") (r := false) (ev_var rfl) ty (by decide +kernel)) (rv_ne rfl)) (by simp))) (fun hb => nomatch hb) fun _ H2 e2 => ?_
          exact s_ret (v := .bl true) (ev_andV (a := true) (b := true) (ev_is (ev_op (ev_isi (n := "NoneType") (m := "int") (r := false) (ev_var rfl) ty (by decide +kernel)) (ev_isi (n := "NoneType") (m := "int") (r := false) (ev_var rfl) ty (by decide +kernel)) (rv_eq rfl)) (by simp)) fun _ => ev_is (ev_op (ev_var rfl) (ev_var rfl) (rv_eq rfl)) (by simp)) fun H3 e3 => k H3 ((e1.trans e2).trans e3)
      · have hln : ((ys.length : Nat) : Int) = (xs.length : Int) := by omega
        rcases hS with ⟨ha, hb⟩ | ⟨ha, hb⟩
        · have tx : Tyn K H (.ref a) "tuple" := .inr (.inr (.inl ⟨a, xs, rfl, ha, rfl⟩))
          have ty : Tyn K H (.ref b) "tuple" := .inr (.inr (.inl ⟨b, ys, rfl, hb, rfl⟩))
          refine ⟨_, (pss_cons (ps_if (pt_val (pe_callB (r := rIsiT K) (call_isiT) (by rfl) T.b_isinstance boot_isinstance (pa_cons (pv 1) (pa_cons (pe_tup (pa_cons (pe_bltn (v := .ty "tuple") (by rfl) T.b_tuple boot_tuple rfl) (pa_cons (pe_bltn (v := .ty "list") (by rfl) T.b_list boot_list rfl) pa_nil))) pa_nil)))) (pss_cons (ps_if (PW.pt (pw_or (pt_not (pt_val (pe_callB (r := rIsiT K) (call_isiT) (by rfl) T.b_isinstance boot_isinstance (pa_cons (pv 0) (pa_cons (pe_tup (pa_cons (pe_bltn (v := .ty "tuple") (by rfl) T.b_tuple boot_tuple rfl) (pa_cons (pe_bltn (v := .ty "list") (by rfl) T.b_list boot_list rfl) pa_nil))) pa_nil))))) (pw_or1 (pt_cmpR op_ne (pe_callB (r := rIsi K) (call_isi) (by rfl) T.b_isinstance boot_isinstance (pa_cons (pv 0) (pa_cons (pe_bltn (v := .ty "list") (by rfl) T.b_list boot_list rfl) pa_nil))) (pe_callB (r := rIsi K) (call_isi) (by rfl) T.b_isinstance boot_isinstance (pa_cons (pv 1) (pa_cons (pe_bltn (v := .ty "list") (by rfl) T.b_list boot_list rfl) pa_nil))) (nomark _))))) (pss_one (ps_ret pe_bl)) pss_nil)
      (pss_cons (ps_if (pt_cmpR op_ne (pe_callB (r := rLenS K) (call_len_seq) (by rfl) T.b_len boot_len (pa_cons (pv 0) pa_nil)) (pe_callB (r := rLenS K) (call_len_seq) (by rfl) T.b_len boot_len (pa_cons (pv 1) pa_nil)) (nomark _)) (pss_one (ps_ret pe_bl)) pss_nil)
      (pss_one (ps_ret (pe_cmpR (op_eqD hr.units) (pe_lc (own := [("_law_k", 2)]) rfl sc__law_same.nd (pi_range1 (by rfl) T.b_range (pa_cons (pe_callB (r := rLenS K) (call_len_seq) (by rfl) T.b_len boot_len (pa_cons (pv 1) pa_nil)) pa_nil)) (blkOk_by (own := [("_law_k", 2)]) (N := n__law_same) (sc := defScope s__law_same) (scope := { kind := PySem.ScopeKind.function, names := [ (PySem.Str.ofString ".0", PySem.NameKind.local), (PySem.Str.ofString "_law_k", PySem.NameKind.local), (PySem.Str.ofString "_law_same", PySem.NameKind.globalImplicit), (PySem.Str.ofString "_law_expected", PySem.NameKind.free), (PySem.Str.ofString "_law_result", PySem.NameKind.free)], isGenerator := false, isCoroutine := false, more := [] : PySem.Scope }) (by decide +kernel)) (fun _ _ _ _ _ => (pg_name (i := 2) sc__law_same.nd rfl (Or.inl rfl))) (fun _ _ _ _ _ => (pts_one (pt_not (pt_val (pe_call ih hr (by rfl) T.g__law_same T.F__law_same.kp T.b__law_same .nil pass0 (pa_cons (pe_ix (r := rIxT K) ix_tup (pv 0) (pv 2) (fun _ _ => rfl)) (pa_cons (pe_ix (r := rIxT K) ix_tup (pv 1) (pv 2) (fun _ _ => rfl)) pa_nil))))))) (fun _ _ _ _ _ => (pv 2))) (pe_lst pa_nil) (nomark _)))))) pss_nil)
      (pss_cons ps_no
      (pss_one ps_no))), ?_⟩
          refine q_when (b := true) (et_B (ev_isiT (n := "tuple") (r1 := true) (r2 := false) (ev_var rfl) ty (by decide +kernel) (by decide +kernel))) (fun _ H2 e2 => ?_) (fun hb => nomatch hb)
          refine q_when (b := false) (et_or (a := false) (b := false) (et_not (a := true) (et_B (ev_isiT (n := "tuple") (r1 := true) (r2 := false) (ev_var rfl) (tx.mono e2) (by decide +kernel) (by decide +kernel)))) fun _ => et_test (ev_is (ev_op (ev_isi (n := "tuple") (m := "list") (r := false) (ev_var rfl) (tx.mono e2) (by decide +kernel)) (ev_isi (n := "tuple") (m := "list") (r := false) (ev_var rfl) (ty.mono e2) (by decide +kernel)) (rv_ne rfl)) (by simp))) (fun hb => nomatch hb) fun _ H3 e3 => ?_
          have e13 := e2.trans e3
          refine q_when (b := false) (et_test (ev_is (ev_op (ev_lenT (ev_var rfl) (ex_t e13 ha)) (Ev.int_eq (ev_lenT (ev_var rfl) (ex_t e13 hb)) hln) (rv_ne rfl)) (by simp))) (fun hb => nomatch hb) fun _ H4 e4 => ?_
          have e14 := e13.trans e4
          refine s_ret (v := .bl true) (ev_eqNil (xs := given (ys.length : Int).toNat (fun _ => false) (fun i => .int (i : Int))) (el_lcR1 (n := (ys.length : Int)) (fun _ => false) _ (ea_cons (ev_lenT (ev_var rfl) (ex_t e14 hb)) ea_nil) ⟨by omega, by omega⟩ (fun _ => rfl) (fun i G e5 hi => ?_) (fun _ _ _ _ hf => nomatch hf)) (el_lst ea_nil (by show 0 ≤ 100000; decide)) (given_none fun _ _ => rfl)) fun H5 e5 => k H5 (e14.trans e5)
          have hx : (i : Nat) < xs.length := by omega
          have hy : (i : Nat) < ys.length := by omega
          refine et_not (a := true) (et_B (ev_call (vs := [xs[i], ys[i]]) (ea_cons (ev_ixT (ev_var rfl) (ex_t (e14.trans e5) ha) (ev_var rfl) (atI_nat (by simp))) (ea_cons (ev_ixT (ev_var rfl) (ex_t (e14.trans e5) hb) (ev_var rfl) (atI_nat (by simp))) ea_nil)) (spv_same ?_)))
          exact (hA i _ _ (by simp) (by simp)).mono (e14.trans e5)
        · have tx : Tyn K H (.ref a) "list" := .inr (.inr (.inr ⟨a, xs, rfl, ha, rfl⟩))
          have ty : Tyn K H (.ref b) "list" := .inr (.inr (.inr ⟨b, ys, rfl, hb, rfl⟩))
          refine ⟨_, (pss_cons (ps_if (pt_val (pe_callB (r := rIsiT K) (call_isiT) (by rfl) T.b_isinstance boot_isinstance (pa_cons (pv 1) (pa_cons (pe_tup (pa_cons (pe_bltn (v := .ty "tuple") (by rfl) T.b_tuple boot_tuple rfl) (pa_cons (pe_bltn (v := .ty "list") (by rfl) T.b_list boot_list rfl) pa_nil))) pa_nil)))) (pss_cons (ps_if (PW.pt (pw_or (pt_not (pt_val (pe_callB (r := rIsiT K) (call_isiT) (by rfl) T.b_isinstance boot_isinstance (pa_cons (pv 0) (pa_cons (pe_tup (pa_cons (pe_bltn (v := .ty "tuple") (by rfl) T.b_tuple boot_tuple rfl) (pa_cons (pe_bltn (v := .ty "list") (by rfl) T.b_list boot_list rfl) pa_nil))) pa_nil))))) (pw_or1 (pt_cmpR op_ne (pe_callB (r := rIsi K) (call_isi) (by rfl) T.b_isinstance boot_isinstance (pa_cons (pv 0) (pa_cons (pe_bltn (v := .ty "list") (by rfl) T.b_list boot_list rfl) pa_nil))) (pe_callB (r := rIsi K) (call_isi) (by rfl) T.b_isinstance boot_isinstance (pa_cons (pv 1) (pa_cons (pe_bltn (v := .ty "list") (by rfl) T.b_list boot_list rfl) pa_nil))) (nomark _))))) (pss_one (ps_ret pe_bl)) pss_nil)
      (pss_cons (ps_if (pt_cmpR op_ne (pe_callB (r := rLenS K) (call_len_seq) (by rfl) T.b_len boot_len (pa_cons (pv 0) pa_nil)) (pe_callB (r := rLenS K) (call_len_seq) (by rfl) T.b_len boot_len (pa_cons (pv 1) pa_nil)) (nomark _)) (pss_one (ps_ret pe_bl)) pss_nil)
      (pss_one (ps_ret (pe_cmpR (op_eqD hr.units) (pe_lc (own := [("_law_k", 2)]) rfl sc__law_same.nd (pi_range1 (by rfl) T.b_range (pa_cons (pe_callB (r := rLenS K) (call_len_seq) (by rfl) T.b_len boot_len (pa_cons (pv 1) pa_nil)) pa_nil)) (blkOk_by (own := [("_law_k", 2)]) (N := n__law_same) (sc := defScope s__law_same) (scope := { kind := PySem.ScopeKind.function, names := [ (PySem.Str.ofString ".0", PySem.NameKind.local), (PySem.Str.ofString "_law_k", PySem.NameKind.local), (PySem.Str.ofString "_law_same", PySem.NameKind.globalImplicit), (PySem.Str.ofString "_law_expected", PySem.NameKind.free), (PySem.Str.ofString "_law_result", PySem.NameKind.free)], isGenerator := false, isCoroutine := false, more := [] : PySem.Scope }) (by decide +kernel)) (fun _ _ _ _ _ => (pg_name (i := 2) sc__law_same.nd rfl (Or.inl rfl))) (fun _ _ _ _ _ => (pts_one (pt_not (pt_val (pe_call ih hr (by rfl) T.g__law_same T.F__law_same.kp T.b__law_same .nil pass0 (pa_cons (pe_ix (r := rIxL K) ix_list (pv 0) (pv 2) (fun _ _ => rfl)) (pa_cons (pe_ix (r := rIxL K) ix_list (pv 1) (pv 2) (fun _ _ => rfl)) pa_nil))))))) (fun _ _ _ _ _ => (pv 2))) (pe_lst pa_nil) (nomark _)))))) pss_nil)
      (pss_cons ps_no
      (pss_one ps_no))), ?_⟩
          refine q_when (b := true) (et_B (ev_isiT (n := "list") (r1 := false) (r2 := true) (ev_var rfl) ty (by decide +kernel) (by decide +kernel))) (fun _ H2 e2 => ?_) (fun hb => nomatch hb)
          refine q_when (b := false) (et_or (a := false) (b := false) (et_not (a := true) (et_B (ev_isiT (n := "list") (r1 := false) (r2 := true) (ev_var rfl) (tx.mono e2) (by decide +kernel) (by decide +kernel)))) fun _ => et_test (ev_is (ev_op (ev_isi (n := "list") (m := "list") (r := true) (ev_var rfl) (tx.mono e2) (by decide +kernel)) (ev_isi (n := "list") (m := "list") (r := true) (ev_var rfl) (ty.mono e2) (by decide +kernel)) (rv_ne rfl)) (by simp))) (fun hb => nomatch hb) fun _ H3 e3 => ?_
          have e13 := e2.trans e3
          refine q_when (b := false) (et_test (ev_is (ev_op (ev_len (ev_var rfl) (ex_l e13 ha)) (Ev.int_eq (ev_len (ev_var rfl) (ex_l e13 hb)) hln) (rv_ne rfl)) (by simp))) (fun hb => nomatch hb) fun _ H4 e4 => ?_
          have e14 := e13.trans e4
          refine s_ret (v := .bl true) (ev_eqNil (xs := given (ys.length : Int).toNat (fun _ => false) (fun i => .int (i : Int))) (el_lcR1 (n := (ys.length : Int)) (fun _ => false) _ (ea_cons (ev_len (ev_var rfl) (ex_l e14 hb)) ea_nil) ⟨by omega, by omega⟩ (fun _ => rfl) (fun i G e5 hi => ?_) (fun _ _ _ _ hf => nomatch hf)) (el_lst ea_nil (by show 0 ≤ 100000; decide)) (given_none fun _ _ => rfl)) fun H5 e5 => k H5 (e14.trans e5)
          have hx : (i : Nat) < xs.length := by omega
          have hy : (i : Nat) < ys.length := by omega
          refine et_not (a := true) (et_B (ev_call (vs := [xs[i], ys[i]]) (ea_cons (ev_ixL (ev_var rfl) (ex_l (e14.trans e5) ha) (ev_var rfl) (atI_nat (by simp))) (ea_cons (ev_ixL (ev_var rfl) (ex_l (e14.trans e5) hb) (ev_var rfl) (atI_nat (by simp))) ea_nil)) (spv_same ?_)))
          exact (hA i _ _ (by simp) (by simp)).mono (e14.trans e5)
section
variable {σ : L2.St} {H : Hp} {ta tb tc : TE} {p q : Addr} {ns : List Int}
theorem et_chain {i j k : Int} {f g : Int → Int → Bool} (ha : Ev ta σ H (.int i)) (hb : Ev tb σ H (.int j)) (hc : Ev tc σ H (.int k)) : EvT (tTest (tChain (rI0 fun i j => .bl (f i j)) (rI0 fun i j => .bl (g i j)) ta tb tc)) σ H (f i j && g j k) := et_test (fun H1 e Q q =>
  ha H1 e _ fun H2 e2 => hb H2 (e.trans e2) _ fun H3 e3 => ⟨i, j, rfl, rfl, f i j, rfl, by
    cases hf : f i j with
    | true => exact hc H3 ((e.trans e2).trans e3) _ fun H4 e4 => ⟨j, k, rfl, rfl, by rw [hf] at q; exact q H4 ((e2.trans e3).trans e4)⟩
    | false => rw [hf] at q; exact q H3 (e2.trans e3)⟩)
theorem alk_ref {n : Nat} {G : Hp} (h1 : SqT K G p (ns.map V.int)) (h2 : SqT K G q (ns.map V.int)) (hl : ns.length ≤ 1000) : Alk K G (n + 1) (.ref p) (.ref q) :=
  .inr ⟨p, q, _, _, rfl, rfl, .inl ⟨h1, h2⟩, rfl, by rw [List.length_map]; exact hl, fun j u v hu hv => by
    have e : u = v := Option.some.inj (hu.symm.trans hv)
    subst e
    obtain ⟨rfl, _⟩ := at_map hu
    cases n with
    | zero => exact .inl ⟨_, rfl, rfl⟩
    | succ n => exact .inl (.inl ⟨_, rfl, rfl⟩)⟩
end
end Sw
namespace Sw
open PySem PySem.Spec PyProof.Rows L2 Evl LamX NdefX
local macro_rules | `(tactic| walk_at "ev") => `(tactic| first
  | exact ev_c
  | exact ev_var rfl
  | ((with_reducible show Ev (tCB rMax2 _) _ _ _); exact ev_maxi (by walk_at "ev") (by walk_at "ev"))
  | ((with_reducible show Ev (tCB rMn _) _ _ _); exact ev_min2 (by walk_at "ev") (by walk_at "ev"))
  | ((with_reducible show Ev (tUn _ _) _ _ _); exact ev_un (by walk_at "ev") ru_neg)
  | ((with_reducible show Ev (tFld _ _ _) _ _ _); exact ev_fldK (by walk_at "ev") (by assumption))
  | ((with_reducible show Ev (tOp (rI0 _) _ _) _ _ _); exact ev_op (by walk_at "ev") (by walk_at "ev") rv_I0)
  | ((with_reducible show Ev (tOp rEq _ _) _ _ _); exact ev_op (by walk_at "ev") (by walk_at "ev") (rv_eq rfl))
  | ((with_reducible show Ev (tOp rNe _ _) _ _ _); exact ev_op (by walk_at "ev") (by walk_at "ev") (rv_ne rfl)))

section
variable {K : PySem.W.Frag} {σ : L2.St} {H : Hp} {ta tb te : TE} {a dd C : Addr} {xs : List V} {v : V} {fs : List (Str × V)} {n : Str}
theorem ev_xf (he : Ev te σ H (.ref a)) (hx : H dd = some (.xd fs)) (hl : fs.lookup n = some v) : Ev (tXf a (.ref C) (some dd) C n te) σ H v := fun H1 e Q q => he H1 e _ fun H2 e2 => ⟨rfl, rfl, dd, fs, v, rfl, e2 _ _ (e _ _ hx), hl, q H2 e2⟩
theorem ev_notN (h : Ev ta σ H v) : Ev (tNotN ta) σ H (.bl (!decide (v = .non))) := fun H1 e1 Q q => h H1 e1 _ fun H2 e2 => q H2 e2
theorem eu_tupV (h : Ev ta σ H (.ref a)) (hx : SqL K H a xs) : EvU (tCB (rTupS K) (tCons ta tNil)) σ H xs := fun H1 e Q q =>
  h H1 e _ fun H2 e2 => ⟨a, xs, rfl, .inl ⟨ex_l (e.trans e2) hx, fun l hl => q l _ (fresh_back e2 hl) (e2.trans (Ex.new hl)) upd_same⟩⟩
end
variable {P : Program} {w : World} {K : PySem.W.Frag} {mg : Str → Option Value} {base : Heap} {Z : Ad}
/-! ### what a call gives, or the error that it raises -/
def PriR (Z : Ad) (Q : VK) : XK := fun cls d H1 => ∃ dd pt, cls = .ref Z.c_InvalidPrices ∧ d = some dd ∧ H1 dd = some (.xd [("part", .str pt)]) ∧ ∀ p H2, H1 p = none → Ex H1 H2 → H2 p = some (.tup [.str "InvalidPrices", .str pt]) → Q (.ref p) H2
def sp_out (P : Program) (w : World) (K : PySem.W.Frag) (mg : Str → Option Value) (base : Heap) (Z : Ad) : Sp := fun vs H Q _ => ∃ (f : Addr) (sp : Sp) (S : Hp), vs = [.ref f] ∧ Cal P w K mg base (L2.CX P w) 9 f sp S ∧ Ex S H ∧
  ∀ (Q1 : VK) (E1 : XK), (∀ v H1, Q v H1 → Q1 v H1) → (∀ cls d H1, PriR Z Q cls d H1 → E1 cls d H1) → sp [] H Q1 E1
theorem ok__law_outcome (T : Txt K mg Z) : FnOk P w K mg base CX0 10 Z.f__law_outcome Z.d__law_outcome p__law_outcome (sp_out P w K mg base Z) := by
  refine T.F__law_outcome.ok sc__law_outcome (fun vs H Q E h => ?_) (fun cdv Ar outer s H vs Q E hr h => ?_)
  · obtain ⟨f, sp, S, rfl, _⟩ := h
    rfl
  · obtain ⟨f, sp, S, rfl, C, eS, q⟩ := h
    refine ⟨_, (pss_one (ps_try_as (i := 1) (Wout := fun _ _ _ _ => False) rfl rfl sc__law_outcome.nd rfl rfl ⟨rfl, by decide, Or.inl T.g_InvalidPrices⟩ L2.takes0 (by exact (fun W pn xe tk _ => (pss_one (ps_ret (pe_calS (CX := L2.CX P w) (i := 0) (k := 9) P w K mg base rfl rfl rfl rfl rfl hr (by decide) (fun σ => passAt tk σ) rfl (by first | exact Or.inl rfl | exact Or.inr (Or.inl rfl) | exact Or.inr (Or.inr rfl))))))) (by exact (fun a oe cls d pn hz hf => (pss_one (by exact (ps_ret (pe_tup (pa_cons pe_str (pa_cons (pe_xf T.xI_InvalidPrices.xf T.na_InvalidPrices_part hz hf (pv 1)) pa_nil)))))))))), ?_⟩
    refine ⟨f, sp, S, rfl, C, eS, q _ _ ?_ ?_⟩
    · intro v H1 h
      exact h
    rintro cls d H1 ⟨dd, pt, rfl, rfl, hx, h⟩
    refine ⟨true, T.xn_InvalidPrices_InvalidPrices, fun _ a na => ?_, fun z => nomatch z⟩
    exact s_retU (xs := [.str "InvalidPrices", .str pt]) (eu_tup (ea_cons ev_c (ea_cons (ev_xf (ev_var rfl) hx rfl) ea_nil)) (by show 2 ≤ 100000; decide)) fun p H2 hp e2 h2 => h p H2 hp e2 h2
/-! ### the first wrong one -/
def sp_fault (K : PySem.W.Frag) : Sp := fun vs H Q _ => ∃ (l : Addr) (ns : List Int), vs = [.ref l] ∧ SqL K H l (ns.map V.int) ∧ ns.length = 3 ∧ (flt ns = none → RetV .non H Q) ∧ (∀ s, flt ns = some s → ∀ p H', H p = none → Ex H H' → H' p = some (.tup [.str "InvalidPrices", .str s]) → Q (.ref p) H')
theorem flt_at {ns : List Int} {i : Nat} (hi : i < 3) (h : ∀ j, j < i → okc (ns.getD j 0) = true) (hb : okc (ns.getD i 0) = false) : flt ns = some (pf i) := by
  unfold flt
  match i, hi, h, hb with
  | 0, _, _, hb => rw [if_pos hb]
  | 1, _, h, hb => rw [if_neg (by rw [h 0 (by omega)]; decide), if_pos hb]
  | 2, _, h, hb => rw [if_neg (by rw [h 0 (by omega)]; decide), if_neg (by rw [h 1 (by omega)]; decide), if_pos hb]
theorem flt_no {ns : List Int} (h : ∀ j, j < 3 → okc (ns.getD j 0) = true) : flt ns = none := by
  unfold flt
  rw [if_neg (by rw [h 0 (by omega)]; decide), if_neg (by rw [h 1 (by omega)]; decide), if_neg (by rw [h 2 (by omega)]; decide)]
theorem ok__law_fault (T : Txt K mg Z) : FnOk P w K mg base CX0 1 Z.f__law_fault Z.d__law_fault p__law_fault (sp_fault K) := by
  refine T.F__law_fault.ok sc__law_fault (fun vs H Q E h => ?_) (fun cdv Ar outer s H vs Q E hr h => ?_)
  · obtain ⟨l, ns, rfl, _⟩ := h
    rfl
  · obtain ⟨l, ns, rfl, hS, hn, k0, k1⟩ := h
    have p6 : (10 : Int) ^ (6 : Int).toNat = 1000000 := by decide
    refine ⟨_, (pss_cons (ps_for PassesOwn.never rfl (pi_range1 (by rfl) T.b_range (pa_cons pe_int pa_nil)) (pg_name (i := 1) sc__law_fault.nd rfl (Or.inl rfl)) (pss_one (ps_if (pt_not (pt_chain op_le op_le pe_int (pe_ix (r := rIxL K) ix_list (pv 0) (pv 1) (fun _ _ => rfl)) (pe_op op_pow pe_int pe_int))) (pss_one (ps_ret (pe_tup (pa_cons pe_str (pa_cons (pe_ix (r := rIxL K) ix_list (pe_lst (pa_cons pe_str (pa_cons pe_str (pa_cons pe_str pa_nil)))) (pv 1) (fun _ _ => rfl)) pa_nil))))) pss_nil)))
      (pss_one (ps_ret pe_non))), ?_⟩
    refine q_forR1 (n := 3) (ea_cons ev_c ea_nil) ⟨by decide, by decide⟩ (fun i σ' H' => (∃ x, σ' = [some (.ref l), x]) ∧ Ex H H' ∧ ∀ j, j < i → okc (ns.getD j 0) = true) (fun H1 e1 => ⟨⟨_, rfl⟩, e1, fun j hj => absurd hj (Nat.not_lt_zero j)⟩) ?_ (fun σ' H' q => ?_)
    · rintro i σ' H' hi ⟨⟨_, rfl⟩, e1, hk⟩
      have hi3 : i < 3 := by omega
      refine s_when (b := !okc (ns.getD i 0)) (et_not (et_chain ev_c (ev_ixL (ev_var rfl) (ex_l e1 hS) (ev_var rfl) (atI_mapI (by omega) (by omega))) (Ev.int_eq (ev_op ev_c ev_c (rv_I ⟨by decide, by decide, by decide⟩)) p6))) (fun hb H2 e2 => ?_) fun hb H2 e2 => ⟨⟨_, rfl⟩, e1.trans e2, fun j hj => ?_⟩
      · have z := flt_at hi3 hk (by simpa using hb)
        refine s_retU (xs := [.str "InvalidPrices", .str (pf i)]) (eu_tup (ea_cons ev_c (ea_cons (ev_ixNL (K := K) (xs := [.str "sale", .str "cost", .str "waste"]) (el_lst (ea_cons ev_c (ea_cons ev_c (ea_cons ev_c ea_nil))) (by show 3 ≤ 100000; decide)) (ev_var rfl) ?_) ea_nil)) (by show 2 ≤ 100000; decide)) fun p H3 hp e3 h3 => k1 _ z p H3 (fresh_back (e1.trans e2) hp) ((e1.trans e2).trans e3) h3
        match i, hi3 with
        | 0, _ => rfl
        | 1, _ => rfl
        | 2, _ => rfl
      · rcases Nat.lt_or_eq_of_le (Nat.le_of_lt_succ hj) with q | q
        · exact hk j q
        · rw [q]; simpa using hb
    · obtain ⟨⟨_, rfl⟩, e1, hk⟩ := q
      exact s_ret ev_c fun H2 e2 => k0 (flt_no hk) H2 (e1.trans e2)
/-! ### agreeing -/
def AgR (K : PySem.W.Frag) (Z : Ad) (G : Hp) (v : V) (ns : List Int) : Prop := (flt ns = none ∧ ∃ p, v = .ref p ∧ PriAt K Z G p ns) ∨ ∃ s t, flt ns = some s ∧ v = .ref t ∧ SqT K G t [.str "InvalidPrices", .str s]
theorem AgR.mono {G G' : Hp} {v : V} {ns : List Int} (e : Ex G G') (h : AgR K Z G v ns) : AgR K Z G' v ns := h.elim (fun ⟨a, p, b, c⟩ => .inl ⟨a, p, b, c.mono e⟩) fun ⟨s, t, a, b, c⟩ => .inr ⟨s, t, a, b, ex_t e c⟩
def sp_agrees (K : PySem.W.Frag) (Z : Ad) : Sp := fun vs H Q _ => ∃ (v : V) (l : Addr) (ns : List Int), vs = [v, .ref l] ∧ SqL K H l (ns.map V.int) ∧ ns.length = 3 ∧ AgR K Z H v ns ∧ RetV (.bl true) H Q
theorem flt_is {ns : List Int} {s : Str} (h : flt ns = some s) : s = pf 0 ∨ s = pf 1 ∨ s = pf 2 := by
  unfold flt at h
  split at h
  · cases h; exact .inl rfl
  split at h
  · cases h; exact .inr (.inl rfl)
  split at h
  · cases h; exact .inr (.inr rfl)
  · cases h
theorem fd_shaped {ns : List Int} {s : Str} (h : flt ns = some s) : SeqAt.shaped (.tuple [.str "InvalidPrices", .str s]) = true := by
  have k1 : PyData.strOk (Str.ofString "InvalidPrices") = true := by decide +kernel
  have k2 : PyData.strOk s = true := by
    rcases flt_is h with rfl | rfl | rfl
    · show PyData.strOk (Str.ofString "sale") = true; decide +kernel
    · show PyData.strOk (Str.ofString "cost") = true; decide +kernel
    · show PyData.strOk (Str.ofString "waste") = true; decide +kernel
  simp only [SeqAt.shaped, PyData.canLay0, PyData.canLayAll0, PyData.depth, PyData.depthAll, k1, k2]; rfl
section
variable {σ : L2.St} {H : Hp} {ta tb : TE} {p : Addr} {ns : List Int} {E : XK}
theorem ew_cents (h : Ev ta σ H (.ref p)) (hp : PriAt K Z H p ns) : EvW K (tProp Z.c_Prices (sp_cents K Z) [] E ta) σ H (ns.map V.int) := fun H1 e Q q => h H1 e _ fun H2 e2 =>
  let ⟨dx, fs, hi⟩ := hp.inst; ⟨p, dx, fs, rfl, e2 _ _ (e _ _ hi), p, ns, rfl, hp.mono (e.trans e2), fun t H3 e3 h3 => q t H3 (e2.trans e3) h3⟩
theorem ev_sameP (h1 : EvW K ta σ H (ns.map V.int)) (h2 : EvU tb σ H (ns.map V.int)) (hl : ns.length ≤ 1000) : Ev (tCall (sp_same K 1) [] E (tCons ta (tCons tb tNil))) σ H (.bl true) := fun H1 e Q q =>
  h1 H1 e _ fun t H2 e2 x => h2 H2 (e.trans e2) _ fun u H3 _ e3 y => ⟨.ref t, .ref u, rfl, alk_ref (ex_t e3 x) (st_of y) hl, fun H4 e4 => q H4 ((e2.trans e3).trans e4)⟩
theorem ev_eqErr {t u : Addr} {s : Str} (h1 : Ev ta σ H (.ref t)) (h2 : Ev tb σ H (.ref u)) (x : SqT K H t [.str "InvalidPrices", .str s]) (y : SqT K H u [.str "InvalidPrices", .str s]) (hf : flt ns = some s) : Ev (tOp (rEqD K) ta tb) σ H (.bl true) := fun H1 e Q q =>
  h1 H1 e _ fun H2 e2 => h2 H2 (e.trans e2) _ fun H3 e3 => ⟨_, _, .tup (ex_t ((e.trans e2).trans e3) x) (.cons (.str _) (.cons (.str _) .nil)), .tup (ex_t ((e.trans e2).trans e3) y) (.cons (.str _) (.cons (.str _) .nil)), fd_shaped hf, fd_shaped hf, by
    have z : PyData.eqv (.tuple [.str "InvalidPrices", .str s]) (.tuple [.str "InvalidPrices", .str s]) = true := by simp [PyData.eqv, PyData.eqvAll]
    rw [z]; exact q H3 (e2.trans e3)⟩
end
theorem ok__law_agrees (T : Txt K mg Z) : FnOk P w K mg base CX0 3 Z.f__law_agrees Z.d__law_agrees p__law_agrees (sp_agrees K Z) := by
  refine T.F__law_agrees.ok sc__law_agrees (fun vs H Q E h => ?_) (fun cdv Ar outer s H vs Q E hr h => ?_)
  · obtain ⟨v, l, ns, rfl, _⟩ := h
    rfl
  · obtain ⟨v, l, ns, rfl, hS, hn, ha, k⟩ := h
    refine ⟨_, (pss_cons (ps_set (i := 2) sc__law_agrees.nd rfl (Or.inl rfl) (pe_call (ok__law_fault T) (hr.mono (by decide)) (by rfl) T.g__law_fault T.F__law_fault.kp T.b__law_fault .nil pass0 (pa_cons (pv 1) pa_nil)))
      (pss_cons (ps_if (pt_cmp (pc_notN (pv 2))) (pss_one (ps_ret (pe_cmpR (op_eqD hr.units) (pv 0) (pv 2) (nomark _)))) pss_nil)
      (pss_one (ps_ret (pe_and (pe_not (pe_callB (r := rIsi K) (call_isi) (by rfl) T.b_isinstance boot_isinstance (pa_cons (pv 0) (pa_cons (pe_bltn (v := .ty "tuple") (by rfl) T.b_tuple boot_tuple rfl) pa_nil)))) (pe_one (pe_call (ok__law_same T 1) (hr.mono (by decide)) (by rfl) T.g__law_same T.F__law_same.kp T.b__law_same .nil pass0 (pa_cons (pe_prop (pv 0) T.cl_Prices T.pp_Prices_cents (ok_Prices_cents T) (hr.mono (by decide)) T.b_Prices_cents .nil pass0 rfl) (pa_cons (pe_callTy (r := rTupS K) (call_tuple_of) (by rfl) T.b_tuple boot_tuple (pa_cons (pv 1) pa_nil)) pa_nil))))))))), ?_⟩
    rcases ha with ⟨hf, p, rfl, hp⟩ | ⟨s, t, hf, rfl, ht⟩
    · refine q_asg (v := .non) (ev_call (ea_cons (ev_var rfl) ea_nil) fun H1 e1 Q q _ => ⟨l, ns, rfl, ex_l e1 hS, hn, fun _ => q, fun s z => by rw [hf] at z; cases z⟩) fun H1 e1 => ?_
      refine q_when (b := false) (et_B (ev_is (ev_notN (ev_var rfl)) (by decide))) (fun hb => nomatch hb) fun _ H2 e2 => ?_
      have e12 := e1.trans e2
      have hp2 := hp.mono e12
      refine s_ret (v := .bl true) (ev_andV (a := true) (b := true) (ev_is (ev_notV (ev_isB (ev_var rfl) (pri_ty T hp2) T.ow_Prices.ty)) rfl) fun _ => ev_sameP (ew_cents (ev_var rfl) hp2) (eu_tupV (ev_var rfl) (ex_l e12 hS)) (by omega)) fun H4 e4 => k H4 (e12.trans e4)
    · refine q_asgU (xs := [.str "InvalidPrices", .str s]) (eu_call (ea_cons (ev_var rfl) ea_nil) fun H1 e1 Q q _ => ⟨l, ns, rfl, ex_l e1 hS, hn, fun z => (by rw [hf] at z; cases z), fun s' z p H' n e h => (by rw [hf] at z; cases z; exact q p H' n e h)⟩) fun u H1 _ e1 h1 => ?_
      refine q_when (b := true) (et_B (ev_is (ev_notN (ev_var rfl)) (by simp))) (fun _ H2 e2 => ?_) fun hb => nomatch hb
      exact s_ret (ev_eqErr (ev_var rfl) (ev_var rfl) (ex_t (e1.trans e2) ht) (st_of (e2 _ _ h1)) hf) fun H4 e4 => k H4 ((e1.trans e2).trans e4)
end Sw
namespace Sw
open PySem PySem.Spec PyProof.Rows L2 Evl LamX NdefX
local macro_rules | `(tactic| walk_at "ev") => `(tactic| first
  | exact ev_c
  | exact ev_var rfl
  | ((with_reducible show Ev (tCB rMax2 _) _ _ _); exact ev_maxi (by walk_at "ev") (by walk_at "ev"))
  | ((with_reducible show Ev (tCB rMn _) _ _ _); exact ev_min2 (by walk_at "ev") (by walk_at "ev"))
  | ((with_reducible show Ev (tUn _ _) _ _ _); exact ev_un (by walk_at "ev") ru_neg)
  | ((with_reducible show Ev (tFld _ _ _) _ _ _); exact ev_fldK (by walk_at "ev") (by assumption))
  | ((with_reducible show Ev (tOp (rI0 _) _ _) _ _ _); exact ev_op (by walk_at "ev") (by walk_at "ev") rv_I0)
  | ((with_reducible show Ev (tOp rEq _ _) _ _ _); exact ev_op (by walk_at "ev") (by walk_at "ev") (rv_eq rfl))
  | ((with_reducible show Ev (tOp rNe _ _) _ _ _); exact ev_op (by walk_at "ev") (by walk_at "ev") (rv_ne rfl)))

/-! ### what is kept: all but the draws' list and the tables -/
noncomputable def Fx (h l : Addr) (G : Hp) : Hp := nt (wn G (hl h l))
theorem nt_mono {H H' : Hp} (e : Ex H H') : Ex (nt H) (nt H') := fun b o q => nt_of (e b o (nt_some q).1) (nt_some q).2
section
variable {K : PySem.W.Frag} {Z : Ad} {h l : Addr} {G G' H H' : Hp} {p : Addr} {ns : List Int} {N : Addr → Prop} {v : V}
theorem fx_dr (d : Dr h l G G') : Ex (Fx h l G) (Fx h l G') := nt_mono d.ex
theorem fx_ext (e : ExtN G G') : Ex (Fx h l G) (Fx h l G') := extN_nt (extN_wn e)
theorem fx_ex (e : Ex G G') : Ex (Fx h l G) (Fx h l G') := nt_mono (wn_mono e)
theorem fx_in : Ex (Fx h l G) G := nt_ex.trans wn_ex
theorem fx_wn : Ex (Fx h l G) (wn G (hl h l)) := nt_ex
theorem hs_ext (e : ExtN G G') (q : HS G h l) : HS G' h l := let ⟨p, m, r, h1, z⟩ := q; ⟨p, m, r, e _ _ h1 (fun _ z => nomatch z), z⟩
theorem tabs_dr {T : List NTab} (hs : HS H h l) (d : Dr h l H H') (t : TabsN T H) : TabsN T H' := by
  have t1 : TabsN T (wn H (hl h l)) := fun p hp => by
    obtain ⟨ps, h1, h2, h3⟩ := t p hp
    refine ⟨ps, (wn_ni (hl_kind hs h1 fun _ z => nomatch z)).trans h1, h2, fun pos cv hc => ?_⟩
    obtain ⟨c, e1, e2⟩ := h3 pos cv hc
    exact ⟨c, e1, (wn_ni (hl_kind hs e2 fun _ z => by unfold CodeO at z; cases z)).trans e2⟩
  exact (t1.ext d.ex).ext wn_ex
theorem fx_lst {xs : List V} (hp : wn G (hl h l) p = some (.lst xs)) : SqL K (Fx h l G) p xs := sq_of (nt_of hp fun _ z => nomatch z)
theorem pri_fx (hs : HS G h l) (hp : PriAt K Z G p ns) : PriAt K Z (Fx h l G) p ns := by
  have k : ∀ {b : Addr} {o : HO}, G b = some o → (∀ ys, o ≠ .lst ys) → (∀ ps, o ≠ .tbl ps) → Fx h l G b = some o := fun e n1 n2 => nt_of ((wn_ni (hl_kind hs e n1)).trans e) n2
  obtain ⟨⟨t, a, b⟩, hl3⟩ := hp
  obtain ⟨⟨dx, fs, e, q⟩, c, na⟩ := a
  refine ⟨⟨t, ⟨⟨dx, fs, k e (fun _ z => nomatch z) (fun _ z => nomatch z), q⟩, c, na⟩, ?_⟩, hl3⟩
  rcases b with (b | ⟨u, b⟩) | b
  · exact .inl (.inl (k b (fun _ z => nomatch z) fun _ z => nomatch z))
  · exact .inl (.inr ⟨u, k b (fun _ z => nomatch z) fun _ z => nomatch z⟩)
  · exact .inr b
theorem agr_wn (hN : ∀ b, N b → ∃ o, G b = some (.frz o okT)) (ha : AgR K Z G v ns) : AgR K Z (wn G N) v ns := by
  have k : ∀ {b : Addr} {o : HO}, G b = some o → (∀ u, o ≠ .frz u okT) → wn G N b = some o := fun {b o} e n => (wn_ni fun z => let ⟨u, q⟩ := hN b z; n u (Option.some.inj (e.symm.trans q))).trans e
  have t : ∀ {a : Addr} {xs : List V}, SqT K G a xs → SqT K (wn G N) a xs := fun b => by
    rcases b with (b | ⟨u, b⟩) | b
    · exact .inl (.inl (k b fun _ z => nomatch z))
    · exact .inl (.inr ⟨u, k b fun _ z => by injection z with _ z; cases z⟩)
    · exact .inr b
  rcases ha with ⟨hf, p, e, ⟨⟨tt, a, b⟩, hl3⟩⟩ | ⟨s, tt, hf, e, b⟩
  · obtain ⟨⟨dx, fs, e1, q⟩, c, na⟩ := a
    exact .inl ⟨hf, p, e, ⟨⟨tt, ⟨⟨dx, fs, k e1 (fun _ z => nomatch z), q⟩, c, na⟩, t b⟩, hl3⟩⟩
  · exact .inr ⟨s, tt, hf, e, t b⟩
theorem xi_if {σ : L2.St} {tt : TT} {ta tb : TE} {A : Int → Prop} (ht : EvXT tt σ H h l) (ha : EvI ta σ H h l A) (hb : EvI tb σ H h l A) : EvI (tIf tt ta tb) σ H h l A := fun H1 d Q q => ht H1 d _ fun b H2 d2 => by
  cases b with
  | true => exact ha H2 (d.trans d2) Q fun v H3 d3 p => q v H3 (d2.trans d3) p
  | false => exact hb H2 (d.trans d2) Q fun v H3 d3 p => q v H3 (d2.trans d3) p
end
/-! ### lambdas that give prices -/
def sp_res (K : PySem.W.Frag) (Z : Ad) (ns : List Int) : Sp := fun vs H Q E => vs = [] ∧ Res K Z ns H Q E
theorem mix_back {Cl : Addr → Prop} {H H3 : Hp} (hcl : ∀ b, Cl b → H3 b = none) : Ex H3 (mixN Cl H H3) := fun b o e => (mix_ni fun z => by rw [hcl b z] at e; cases e).trans e
theorem mix_over {Cl : Addr → Prop} {H H3 : Hp} (e : Ex (wn H Cl) H3) : Ex H (mixN Cl H H3) := fun b o q => by
  by_cases n : Cl b
  · rw [mix_in n]; exact q
  · rw [mix_ni n]; exact e b o ((wn_ni n).trans q)
theorem res_mix {K : PySem.W.Frag} {Z : Ad} {ns : List Int} {H : Hp} {Q : VK} {E : XK} {Cl : Addr → Prop} (r : Res K Z ns H Q E) :
    Res K Z ns (wn H Cl) (fun v H3 => (∀ b, Cl b → H3 b = none) → Q v (mixN Cl H H3)) (fun c d H3 => (∀ b, Cl b → H3 b = none) → E c d (mixN Cl H H3)) := by
  refine ⟨fun hf p H3 np ex hP hcl => ?_, fun s hf d H3 ex nd hd hcl => ?_⟩
  · obtain ⟨dx, fs, hi⟩ := hP.inst
    have nc : ¬ Cl p := fun z => by rw [hcl p z] at hi; cases hi
    exact r.1 hf p _ ((wn_ni nc).symm.trans np) (mix_over ex) (hP.mono (mix_back hcl))
  · have nc : ¬ Cl d := fun z => by rw [hcl d z] at hd; cases hd
    exact r.2 s hf d _ (mix_over ex) ((wn_ni nc).symm.trans nd) (mix_back hcl _ _ hd)
theorem cl_none {X : Cx} {σ : L2.St} {H Hz : Hp} {N : Addr → Prop} {scope : Scope} (z : Frz X σ H Hz N) (hfree : ∀ y ∈ scope.names, y.2 = .free → X.env.scope.names.lookup y.1 = some .cell ∨ X.env.scope.names.lookup y.1 = some .free) : ∀ y c, (cloFrom X.env.cells scope.names []).lookup y = some c → H c = none := fun y c e =>
  z.off c ((z.iff c).mpr ⟨y, clo_cm (fun y hy e => z.has y.1 (hfree y hy e)) e⟩)
section
variable {P : Program} {w : World} {K : PySem.W.Frag} {mg : Str → Option Value} {base : Heap} {Z : Ad} {X : Cx} {σ : L2.St} {G : Hp} {T : List NTab}
theorem out_lamE {mk : Addr → LF} {Pr : Addr → Hp → Prop} (hT : TabsN T G) (lam : ∀ f c' H7, ExtN G H7 → H7 f = some (LamO f (mk c')) → H7 c' = some (CodeO c' (mk c').qual) → Pr f H7) : ∀ Q : VK, (∀ f H7, ExtN G H7 → TabsN T H7 → Pr f H7 → Q (.ref f) H7) → tLamE T mk σ G Q := fun Q q =>
  ⟨hT, fun f c' H1 e1 _ e3 _ e5 e6 => q f H1 e1 e3 (lam f c' H1 e1 e5 e6)⟩
theorem out_lamD {mk : Addr → Addr → LF} {i : Int} {Pr : Addr → Hp → Prop} (hT : TabsN T G) (lam : ∀ f c' t H7, ExtN G H7 → H7 f = some (LamO f (mk c' t)) → H7 c' = some (CodeO c' (mk c' t).qual) → H7 t = some (.tup [.int i]) → Pr f H7) : ∀ Q : VK, (∀ f H7, ExtN G H7 → TabsN T H7 → Pr f H7 → Q (.ref f) H7) → tLamD T mk i σ G Q := fun Q q =>
  ⟨hT, fun f c' t H1 e1 _ e3 _ e5 e6 e7 => q f H1 e1 e3 (lam f c' t H1 e1 e5 e6 e7)⟩
theorem q_outE {tlam td : TE} {E : XK} {ns : List Int} {tz tu : TS} {D : Ends}
    (hl : ∀ Q : VK, (∀ f H7, ExtN G H7 → TabsN T H7 → (∀ Hz N, Frz X σ H7 Hz N → Cal P w K mg base (L2.CX P w) 9 f (sp_res K Z ns) Hz) → Q (.ref f) H7) → tlam σ G Q) (n3 : ns.length = 3)
    (due : ∀ G', ExtN G G' → ∀ Q : VK, (∀ a H3, Ex G' H3 → SqL K H3 a (ns.map V.int) → Q (.ref a) H3) → td σ G' Q) (fin : ∀ G', ExtN G G' → TabsN T G' → tz D σ G') :
    tSeq (tIfS (tNot (tB (tCall (sp_agrees K Z) [] E (tCons (tCallZ X (sp_out P w K mg base Z) [] (tCons tlam tNil)) (tCons td tNil))))) tu tNext) tz D σ G := by
  refine hl _ fun f H7 eN T7 C7 => ?_
  intro Hz N fz
  have nN : ∀ {b : Addr} {o : HO}, H7 b = some o → ¬ N b := fun e n => by rw [fz.off _ n] at e; cases e
  have go : ∀ v H2, Ex Hz H2 → AgR K Z H2 v ns → tSeq (tIfS (tNot (tB (tCall (sp_agrees K Z) [] E (tCons (tC v) (tCons td tNil))))) tu tNext) tz D σ (wn H2 N) := fun v H2 eZ ha => by
    have ha' := agr_wn (N := N) (fun b n => let ⟨o, _, e, _⟩ := fz.inn b n; ⟨o, eZ _ _ e⟩) ha
    have en : ExtN G (wn H2 N) := fun b o e n => have e7 := eN b o e n; (wn_ni (nN e7)).trans (eZ _ _ (fz.ex_ _ _ e7))
    have T2 : TabsN T (wn H2 N) := T7.ext fun b o e => (wn_ni (nN e)).trans (eZ _ _ (fz.ex_ _ _ e))
    have ev : Ev (tCall (sp_agrees K Z) [] E (tCons (tC v) (tCons td tNil))) σ (wn H2 N) (.bl true) := fun H1 e Q q => due H1 (fun b o x n => e _ _ (en b o x n)) _ fun a H3 e3 hl => ⟨v, a, ns, rfl, hl, n3, ha'.mono (e.trans e3), fun H4 e4 => q H4 (e3.trans e4)⟩
    exact q_when (b := false) (et_not (a := true) (et_B ev)) (fun hb => nomatch hb) fun _ H3 e3 => fin H3 (fun b o x n => e3 _ _ (en b o x n)) (T2.ext e3)
  refine ⟨f, _, Hz, rfl, C7 Hz N fz, Ex.refl _, fun Q1 E1 q1 e1 => ⟨rfl, fun hf p H' np ex hP => q1 _ _ (go _ _ ex (.inl ⟨hf, p, rfl, hP⟩)), fun s hf d H' ex nd hd => e1 _ _ _ ⟨d, s, rfl, rfl, hd, fun p' H2 np e2 h2 => go _ _ (ex.trans e2) (.inr ⟨s, p', hf, rfl, st_of h2⟩)⟩⟩⟩
theorem s_outE {tlam td : TE} {E : XK} {ns : List Int} {tu : TS} {D : Ends}
    (hl : ∀ Q : VK, (∀ f H7, ExtN G H7 → TabsN T H7 → (∀ Hz N, Frz X σ H7 Hz N → Cal P w K mg base (L2.CX P w) 9 f (sp_res K Z ns) Hz) → Q (.ref f) H7) → tlam σ G Q) (n3 : ns.length = 3)
    (due : ∀ G', ExtN G G' → ∀ Q : VK, (∀ a H3, Ex G' H3 → SqL K H3 a (ns.map V.int) → Q (.ref a) H3) → td σ G' Q) (fin : ∀ G', ExtN G G' → TabsN T G' → D.nx σ G') :
    tIfS (tNot (tB (tCall (sp_agrees K Z) [] E (tCons (tCallZ X (sp_out P w K mg base Z) [] (tCons tlam tNil)) (tCons td tNil))))) tu tNext D σ G := q_outE (tz := fun D => D.nx) (D := D) hl n3 due fin
end
/-! ### signs in readings -/
section
variable {K : PySem.W.Frag} {Z : Ad} {X : Cx} {σ : L2.St} {H : Hp} {ta tb te : TE} {t : TA} {p q : Addr} {as bs xs : List Int} {E : XK}
theorem ev_peq (h1 : Ev ta σ H (.ref p)) (h2 : Ev tb σ H (.ref q)) (hp : PriAt K Z H p as) (hq : PriAt K Z H q bs) : Ev (tOp (rOwnE K Z.c_Prices (sp_Peq K Z) E) ta tb) σ H (.bl (decide (as = bs))) := fun H1 e Q k =>
  h1 H1 e _ fun H2 e2 => h2 H2 (e.trans e2) _ fun H3 e3 => by
    have e13 := (e.trans e2).trans e3
    obtain ⟨dx, fs, hi⟩ := (hp.mono e13).inst
    exact ⟨p, q, dx, fs, rfl, rfl, hi, .inl (hq.mono e13).inst, p, q, as, rfl, hp.mono e13, .inl ⟨bs, hq.mono e13, fun H4 e4 => k H4 ((e2.trans e3).trans e4)⟩⟩
theorem ev_pne (h1 : Ev ta σ H (.ref p)) (h2 : Ev tb σ H (.ref q)) (hp : PriAt K Z H p as) (hq : PriAt K Z H q bs) : Ev (tOp (rOwnN K Z.c_Prices (sp_Peq K Z) E) ta tb) σ H (.bl (!decide (as = bs))) := fun H1 e Q k =>
  h1 H1 e _ fun H2 e2 => h2 H2 (e.trans e2) _ fun H3 e3 => by
    have e13 := (e.trans e2).trans e3
    obtain ⟨dx, fs, hi⟩ := (hp.mono e13).inst
    exact ⟨p, q, dx, fs, rfl, rfl, hi, .inl (hq.mono e13).inst, p, q, as, rfl, hp.mono e13, .inl ⟨bs, hq.mono e13, fun H4 e4 => ⟨_, rfl, k H4 ((e2.trans e3).trans e4)⟩⟩⟩
theorem ev_petup (h1 : Ev ta σ H (.ref p)) (h2 : EvU tb σ H (xs.map V.int)) (hp : PriAt K Z H p as) : Ev (tOp (rOwnE K Z.c_Prices (sp_Peq K Z) E) ta tb) σ H (.bl false) := fun H1 e Q k =>
  h1 H1 e _ fun H2 e2 => h2 H2 (e.trans e2) _ fun q H3 _ e3 hq => by
    have e13 := (e.trans e2).trans e3
    obtain ⟨dx, fs, hi⟩ := (hp.mono e13).inst
    exact ⟨p, q, dx, fs, rfl, rfl, hi, .inr ⟨_, st_of hq⟩, p, q, as, rfl, hp.mono e13, .inr ⟨_, st_of hq, fun H4 e4 => k H4 ((e2.trans e3).trans e4)⟩⟩
theorem ints_shapedL (ns : List Int) : SeqAt.shaped (.list (ns.map PyData.int)) = true := tup_shaped ns
theorem ev_eqLi {a b : Addr} (h1 : Ev ta σ H (.ref a)) (h2 : Ev tb σ H (.ref b)) (x1 : SqL K H a (as.map V.int)) (x2 : SqL K H b (bs.map V.int)) : Ev (tOp (rEqD K) ta tb) σ H (.bl (decide (as = bs))) := fun H1 e Q k => h1 H1 e _ fun H2 e2 => h2 H2 (e.trans e2) _ fun H3 e3 =>
  ⟨_, _, .lst (ex_l ((e.trans e2).trans e3) x1) (dp_ints as), .lst (ex_l ((e.trans e2).trans e3) x2) (dp_ints bs), ints_shapedL as, ints_shapedL bs, by
    have z : PyData.eqv (.list (as.map PyData.int)) (.list (bs.map PyData.int)) = decide (as = bs) := eqvA_dec as bs
    rw [z]; exact k H3 (e2.trans e3)⟩
theorem ev_neLi {a b : Addr} (h1 : Ev ta σ H (.ref a)) (h2 : Ev tb σ H (.ref b)) (x1 : SqL K H a (as.map V.int)) (x2 : SqL K H b (bs.map V.int)) : Ev (tOp (rNeD K) ta tb) σ H (.bl (!decide (as = bs))) := fun H1 e Q k => h1 H1 e _ fun H2 e2 => h2 H2 (e.trans e2) _ fun H3 e3 =>
  ⟨_, _, .lst (ex_l ((e.trans e2).trans e3) x1) (dp_ints as), .lst (ex_l ((e.trans e2).trans e3) x2) (dp_ints bs), ints_shapedL as, ints_shapedL bs, by
    have z : PyData.eqv (.list (as.map PyData.int)) (.list (bs.map PyData.int)) = decide (as = bs) := eqvA_dec as bs
    rw [z]; exact k H3 (e2.trans e3)⟩
end
theorem add_at {K : PySem.W.Frag} {C : Addr} {r : Option (Option Value)} (h : PySem.W.findIn K (.ref C) "__add__" = r) : PySem.W.findIn K (.ref C) (PySem.dunder (Operator.info .Add).2) = r := by
  have d : PySem.dunder (Operator.info .Add).2 = "__add__" := by decide +kernel
  rw [d]; exact h
end Sw
namespace Sw
open PySem PySem.Spec PyProof.Rows L2 Evl LamX NdefX
local macro_rules | `(tactic| walk_at "ev") => `(tactic| first
  | exact ev_c
  | exact ev_var rfl
  | ((with_reducible show Ev (tCB rMax2 _) _ _ _); exact ev_maxi (by walk_at "ev") (by walk_at "ev"))
  | ((with_reducible show Ev (tCB rMn _) _ _ _); exact ev_min2 (by walk_at "ev") (by walk_at "ev"))
  | ((with_reducible show Ev (tUn _ _) _ _ _); exact ev_un (by walk_at "ev") ru_neg)
  | ((with_reducible show Ev (tFld _ _ _) _ _ _); exact ev_fldK (by walk_at "ev") (by assumption))
  | ((with_reducible show Ev (tOp (rI0 _) _ _) _ _ _); exact ev_op (by walk_at "ev") (by walk_at "ev") rv_I0)
  | ((with_reducible show Ev (tOp rEq _ _) _ _ _); exact ev_op (by walk_at "ev") (by walk_at "ev") (rv_eq rfl))
  | ((with_reducible show Ev (tOp rNe _ _) _ _ _); exact ev_op (by walk_at "ev") (by walk_at "ev") (rv_ne rfl)))

def sp_lawT (K : PySem.W.Frag) (tb : Addr) : Sp := fun vs H Q _ => ∃ (a : Addr) (ns : List Int), vs = [.ref a] ∧ SqL K H a (ns.map V.int) ∧ ns.length ≤ 63 ∧ H tb = some (.tbl #[]) ∧ ∀ H', Q (.bl true) H'
theorem in6 {ns : List Int} (h : ∀ x ∈ ns, 0 ≤ x ∧ x ≤ 1000000) (k : Nat) : 0 ≤ ns.getD k 0 ∧ ns.getD k 0 ≤ 1000000 := by
  by_cases hi : k < ns.length
  · have e : ns.getD k 0 = ns[k] := by simp [List.getD, hi]
    rw [e]; exact h _ (List.getElem_mem hi)
  · have e : ns.getD k 0 = 0 := by simp [List.getD, List.getElem?_eq_none (Nat.le_of_not_lt hi)]
    rw [e]; omega
theorem okc_in {c : Int} (h : 0 ≤ c ∧ c ≤ 1000000) : okc c = true := by unfold okc; simp [h.1, h.2]
theorem flt_in {a b c : Int} (ha : 0 ≤ a ∧ a ≤ 1000000) (hb : 0 ≤ b ∧ b ≤ 1000000) (hc : 0 ≤ c ∧ c ≤ 1000000) : flt [a, b, c] = none := by
  unfold flt
  simp only [List.getD_cons_zero, List.getD_cons_succ]
  rw [okc_in ha, okc_in hb, okc_in hc]; decide
theorem sql_fx {K : PySem.W.Frag} {h l : Addr} {H H1 : Hp} {xs : List V} (hh : H h = none) (hS : SqL K H l xs) (e : Ex H H1) : SqL K (Fx h l H1) l xs := by
  have go : ∀ {o : HO}, H l = some o → (∀ ps, o ≠ .tbl ps) → Fx h l H1 l = some o := fun {o} q n => by
    have ne : ¬ hl h l l := fun z => by rw [show l = h from z, hh] at q; cases q
    exact nt_of ((wn_ni ne).trans (e _ _ q)) n
  rcases hS with (q | ⟨u, q⟩) | q
  · exact .inl (.inl (go q fun _ z => nomatch z))
  · exact .inl (.inr ⟨u, go q fun _ z => nomatch z⟩)
  · exact .inr q
variable {P : Program} {w : World} {K : PySem.W.Frag} {mg : Str → Option Value} {base : Heap} {Z : Ad}
theorem xi_dr {σ : L2.St} {H : Hp} {ta tb : TE} {h l : Addr} {cells : List Int} {n : Int} {E : XK} (hc : SqL K (wn H (hl h l)) l (cells.map V.int)) (ha : ∀ G, Ev ta σ G (.ref h)) (hb : EvI tb σ H h l (fun i => i = n)) (p0 : 0 < n) (p1 : n ≤ 1000000000000000000) : EvI (tCall (sp_drawn K) [] E (tCons ta (tCons tb tNil))) σ H h l (fun v => 0 ≤ v ∧ v < n) :=
  (xi_drawn hc ha hb (fun i e => by subst e; exact ⟨p0, p1⟩)).imp fun v q => ⟨q.1, by obtain ⟨j, ej, zj⟩ := q.2; omega⟩
theorem q_two {σ : L2.St} {H : Hp} {h l : Addr} {t t' : TA} {tn : TE} {E E' : XK} {i1 i2 i3 : Nat} {D : Ends} {tz : TS} {a0 a1 a2 b0 b1 b2 : Int} {A : Int → Prop} (hs : HS H h l) (ht : EvA t σ H [.int a0, .int a1, .int a2]) (hf : flt [a0, a1, a2] = none) (ht' : EvA t' σ H [.int b0, .int b1, .int b2]) (hf' : flt [b0, b1, b2] = none) (hn : EvI tn σ H h l A)
    (k : ∀ pa pb n S, Dr h l H S → PriAt K Z (Fx h l S) pa [a0, a1, a2] → PriAt K Z (Fx h l S) pb [b0, b1, b2] → A n → tz D (((σ.set i1 (some (.ref pa))).set i2 (some (.ref pb))).set i3 (some (.int n))) S) :
    tSeq (tAsg (tTup (tCons (tMake Z.c_Prices (sp_Pinit K Z) [] E t) (tCons (tMake Z.c_Prices (sp_Pinit K Z) [] E' t') (tCons tn tNil)))) (gTup K 3 (gCons (gName i1) (gCons (gName i2) (gCons (gName i3) gNil))))) tz D σ H := by
  dsimp only [tSeq, tAsg, tTup, tCons, tNil]
  refine r_pri (fun _ _ _ _ h => h) ht hf fun pa H5 na e5 hPa => ?_
  refine r_pri (fun _ _ _ _ h => h) (ht'.mono e5) hf' fun pb H6 nb e6 hPb => ?_
  have d6 := Dr.of hs (e5.trans e6)
  refine hn H6 d6 _ fun v H7 d7 ⟨n, ev, hA⟩ => ?_
  subst ev
  refine ⟨by show 3 ≤ sizeLine; decide, fun r hr => ⟨r, _, rfl, st_of upd_same, rfl, _, _, rfl, _, _, rfl, _, _, rfl, rfl, ?_⟩⟩
  have d8 := Dr.of d7.hs (Ex.new (o := .tup [.ref pa, .ref pb, .int n]) hr)
  exact k pa pb n _ ((d6.trans d7).trans d8) ((pri_fx (hs.mono e5) hPa).mono ((fx_ex e6).trans (fx_dr (d7.trans d8)))) ((pri_fx d6.hs hPb).mono (fx_dr (d7.trans d8))) hA
def nmLaw : Nat → Nat → Str := fun _ _ => "law.<locals>." ++ "<lambda>"
theorem ok_law (T : Txt K mg Z) (hP : P = Z.P) (TB : LamX.TabB base mg Z.k_law Z.tb_law) : FnOk P w K mg base CX0 11 Z.f_law Z.d_law p_law (sp_lawT K Z.tb_law) := by
  refine T.FC_law.ok sc_law (fun vs H Q E h => ?_) (fun Ar outer s H vs Q E hr h => ?_)
  · obtain ⟨a, ns, rfl, _⟩ := h
    rfl
  · obtain ⟨l, cells, rfl, hS, hn, hT0, k⟩ := h
    have TBm : (Z.tb_law, nmLaw) ∈ [(Z.tb_law, nmLaw)] := List.mem_singleton.mpr rfl
    have TBu : ∀ p ∈ [(Z.tb_law, nmLaw)], p.1 = Z.tb_law → p.2 = nmLaw := fun p hp _ => by rw [List.mem_singleton.mp hp]
    have T0 : TabsN [(Z.tb_law, nmLaw)] H := fun p hp => by rw [List.mem_singleton.mp hp]; exact TabN.nil hT0
    have p6 : (10 : Int) ^ (6 : Int).toNat = 1000000 := by decide
    have p18 : (10 : Int) ^ (18 : Int).toNat = 1000000000000000000 := by decide
    refine ⟨_, (pss_cons (ps_set (i := 1) sc_law.nd rfl (Or.inr rfl) (pe_call (ok__law_start T) (hr.mono (by decide)) (by rfl) T.g__law_start T.F__law_start.kp T.b__law_start .nil pass0 (pa_cons (pv 0) pa_nil)))
      (pss_cons (ps_for PassesOwn.never rfl (pi_range1 (by rfl) T.b_range (pa_cons pe_int pa_nil)) (pg_name (i := 2) sc_law.nd rfl (Or.inl rfl)) (pss_cons (ps_set (i := 3) sc_law.nd rfl (Or.inr rfl) (pe_ix (r := rIxL K) ix_list (pe_lst (pa_cons pe_int (pa_cons (pe_op op_pow pe_int pe_int) pa_nil))) (pe_call (ok__law_drawn T) (hr.mono (by decide)) (by rfl) T.g__law_drawn T.F__law_drawn.kp T.b__law_drawn .nil pass0 (pa_cons (pv 1) (pa_cons pe_int pa_nil))) (fun _ _ => rfl)))
      (pss_cons (ps_set (i := 4) sc_law.nd rfl (Or.inr rfl) (pe_lc (own := [("_law_k", 13)]) rfl sc_law.nd (pi_range1 (by rfl) T.b_range (pa_cons pe_int pa_nil)) (blkOk_by (own := [("_law_k", 13)]) (N := n_law) (sc := defScope s_law) (scope := { kind := PySem.ScopeKind.function, names := [ (PySem.Str.ofString ".0", PySem.NameKind.local), (PySem.Str.ofString "_law_k", PySem.NameKind.local), (PySem.Str.ofString "_law_drawn", PySem.NameKind.globalImplicit), (PySem.Str.ofString "_law_high", PySem.NameKind.free), (PySem.Str.ofString "_law_state", PySem.NameKind.free)], isGenerator := false, isCoroutine := false, more := [] : PySem.Scope }) (by decide +kernel)) (fun _ _ _ _ _ => (pg_name (i := 13) sc_law.nd rfl (Or.inl rfl))) (fun _ _ _ _ _ => pts_nil) (fun _ _ _ _ _ => (pe_ifExp (pt_cmpR op_gt (pe_call (ok__law_drawn T) (hr.mono (by decide)) (by rfl) T.g__law_drawn T.F__law_drawn.kp T.b__law_drawn .nil pass0 (pa_cons (pv 1) (pa_cons pe_int pa_nil))) pe_int (nomark _)) (pe_call (ok__law_drawn T) (hr.mono (by decide)) (by rfl) T.g__law_drawn T.F__law_drawn.kp T.b__law_drawn .nil pass0 (pa_cons (pv 1) (pa_cons (pe_op op_add (pv 3) pe_int) pa_nil))) (pv 3)))))
      (pss_cons (ps_set (i := 5) sc_law.nd rfl (Or.inr rfl) (pe_lc (own := [("_law_k", 13)]) rfl sc_law.nd (pi_range1 (by rfl) T.b_range (pa_cons pe_int pa_nil)) (blkOk_by (own := [("_law_k", 13)]) (N := n_law) (sc := defScope s_law) (scope := { kind := PySem.ScopeKind.function, names := [ (PySem.Str.ofString ".0", PySem.NameKind.local), (PySem.Str.ofString "_law_k", PySem.NameKind.local), (PySem.Str.ofString "_law_drawn", PySem.NameKind.globalImplicit), (PySem.Str.ofString "_law_high", PySem.NameKind.free), (PySem.Str.ofString "_law_one", PySem.NameKind.free), (PySem.Str.ofString "_law_state", PySem.NameKind.free)], isGenerator := false, isCoroutine := false, more := [] : PySem.Scope }) (by decide +kernel)) (fun _ _ _ _ _ => (pg_name (i := 13) sc_law.nd rfl (Or.inl rfl))) (fun _ _ _ _ _ => pts_nil) (fun _ _ _ _ _ => (pe_ifExp (pt_cmpR op_gt (pe_call (ok__law_drawn T) (hr.mono (by decide)) (by rfl) T.g__law_drawn T.F__law_drawn.kp T.b__law_drawn .nil pass0 (pa_cons (pv 1) (pa_cons pe_int pa_nil))) pe_int (nomark _)) (pe_ix (r := rIxL K) ix_list (pv 4) (pv 13) (fun _ _ => rfl)) (pe_call (ok__law_drawn T) (hr.mono (by decide)) (by rfl) T.g__law_drawn T.F__law_drawn.kp T.b__law_drawn .nil pass0 (pa_cons (pv 1) (pa_cons (pe_op op_add (pv 3) pe_int) pa_nil)))))))
      (pss_cons (ps_asg (pe_tup (pa_cons (pe_make T.mk_Prices (ok_Prices___init__ T) (hr.mono (by decide)) (by rfl) T.g_Prices T.b_Prices___init__ .nil pass0 (pa_cons (pe_ix (r := rIxL K) ix_list (pv 4) pe_int (fun _ _ => rfl)) (pa_cons (pe_ix (r := rIxL K) ix_list (pv 4) pe_int (fun _ _ => rfl)) (pa_cons (pe_ix (r := rIxL K) ix_list (pv 4) pe_int (fun _ _ => rfl)) pa_nil)))) (pa_cons (pe_make T.mk_Prices (ok_Prices___init__ T) (hr.mono (by decide)) (by rfl) T.g_Prices T.b_Prices___init__ .nil pass0 (pa_cons (pe_ix (r := rIxL K) ix_list (pv 5) pe_int (fun _ _ => rfl)) (pa_cons (pe_ix (r := rIxL K) ix_list (pv 5) pe_int (fun _ _ => rfl)) (pa_cons (pe_ix (r := rIxL K) ix_list (pv 5) pe_int (fun _ _ => rfl)) pa_nil)))) (pa_cons (pe_op op_sub (pe_call (ok__law_drawn T) (hr.mono (by decide)) (by rfl) T.g__law_drawn T.F__law_drawn.kp T.b__law_drawn .nil pass0 (pa_cons (pv 1) (pa_cons pe_int pa_nil))) pe_int) pa_nil)))) (by exact (pg_tupK K (n := 3) rfl rfl (pgs_cons (pg_name (i := 9) sc_law.nd rfl (Or.inr rfl)) (pgs_cons (pg_name (i := 10) sc_law.nd rfl (Or.inr rfl)) (pgs_cons (pg_name (i := 11) sc_law.nd rfl (Or.inr rfl)) pgs_nil))))))
      (pss_cons (ps_par3 (i := 6) (j := 7) (l := 8) rfl sc_law.nd rfl rfl rfl (by decide) (by decide) (by decide) rfl rfl rfl (pa_cons (pe_call (ok__law_drawn T) (hr.mono (by decide)) (by rfl) T.g__law_drawn T.F__law_drawn.kp T.b__law_drawn .nil pass0 (pa_cons (pv 1) (pa_cons pe_int pa_nil))) (pa_cons (pe_call (ok__law_drawn T) (hr.mono (by decide)) (by rfl) T.g__law_drawn T.F__law_drawn.kp T.b__law_drawn .nil pass0 (pa_cons (pv 1) (pa_cons (pe_op op_pow pe_int pe_int) pa_nil))) (pa_cons (pe_call (ok__law_drawn T) (hr.mono (by decide)) (by rfl) T.g__law_drawn T.F__law_drawn.kp T.b__law_drawn .nil pass0 (pa_cons (pv 1) (pa_cons pe_int pa_nil))) pa_nil))) (by rfl))
      (pss_cons (ps_if (pt_cmpR op_ne (StX.pe_callO (pv 9) T.co_Prices (fnR_of (ok_Prices___call__ T) T.b_Prices___call__) (hr.mono (by decide)) pass0 (pa_cons (pv 6) (pa_cons (pv 7) (pa_cons (pv 8) pa_nil)))) (pe_op op_sub (pe_op op_sub (pe_op op_mul (pe_ix (r := rIxL K) ix_list (pv 4) pe_int (fun _ _ => rfl)) (pv 7)) (pe_op op_mul (pe_ix (r := rIxL K) ix_list (pv 4) pe_int (fun _ _ => rfl)) (pv 6))) (pe_op op_mul (pe_ix (r := rIxL K) ix_list (pv 4) pe_int (fun _ _ => rfl)) (pv 8))) (nomark _)) (pss_one (ps_ret pe_bl)) pss_nil)
      (pss_cons (ps_if (pt_not (pt_val (pe_call (ok__law_agrees T) (hr.mono (by decide)) (by rfl) T.g__law_agrees T.F__law_agrees.kp T.b__law_agrees .nil pass0 (pa_cons (pe_callZ (ok__law_outcome T) (hr.mono (by decide)) (by rfl) T.g__law_outcome T.F__law_outcome.kp T.b__law_outcome .nil (pa_cons (pe_lamE TB rfl TBm rfl TBu rfl (fun y hy e => ndef_free (sc := defScope s_law) (fr := []) (by decide +kernel) y hy e)) pa_nil)) (pa_cons (pe_lc (own := [("_law_k", 13)]) rfl sc_law.nd (pi_range1 (by rfl) T.b_range (pa_cons pe_int pa_nil)) (blkOk_by (own := [("_law_k", 13)]) (N := n_law) (sc := defScope s_law) (scope := { kind := PySem.ScopeKind.function, names := [ (PySem.Str.ofString ".0", PySem.NameKind.local), (PySem.Str.ofString "_law_k", PySem.NameKind.local), (PySem.Str.ofString "_law_one", PySem.NameKind.free), (PySem.Str.ofString "_law_other", PySem.NameKind.free)], isGenerator := false, isCoroutine := false, more := [] : PySem.Scope }) (by decide +kernel)) (fun _ _ _ _ _ => (pg_name (i := 13) sc_law.nd rfl (Or.inl rfl))) (fun _ _ _ _ _ => pts_nil) (fun _ _ _ _ _ => (pe_op op_add (pe_ix (r := rIxL K) ix_list (pv 4) (pv 13) (fun _ _ => rfl)) (pe_ix (r := rIxL K) ix_list (pv 5) (pv 13) (fun _ _ => rfl))))) pa_nil))))) (pss_one (ps_ret pe_bl)) pss_nil)
      (pss_cons (ps_if (pt_not (pt_val (pe_call (ok__law_agrees T) (hr.mono (by decide)) (by rfl) T.g__law_agrees T.F__law_agrees.kp T.b__law_agrees .nil pass0 (pa_cons (pe_callZ (ok__law_outcome T) (hr.mono (by decide)) (by rfl) T.g__law_outcome T.F__law_outcome.kp T.b__law_outcome .nil (pa_cons (pe_lamD TB rfl TBm rfl TBu pe_int rfl (fun y hy e => ndef_free (sc := defScope s_law) (fr := []) (by decide +kernel) y hy e)) pa_nil)) (pa_cons (pe_lc (own := [("_law_price", 14)]) rfl sc_law.nd (pi_listK K rfl (pv 4)) (blkOk_by (own := [("_law_price", 14)]) (N := n_law) (sc := defScope s_law) (scope := { kind := PySem.ScopeKind.function, names := [ (PySem.Str.ofString ".0", PySem.NameKind.local), (PySem.Str.ofString "_law_price", PySem.NameKind.local), (PySem.Str.ofString "_law_times", PySem.NameKind.free)], isGenerator := false, isCoroutine := false, more := [] : PySem.Scope }) (by decide +kernel)) (fun _ _ _ _ _ => (pg_name (i := 14) sc_law.nd rfl (Or.inl rfl))) (fun _ _ _ _ _ => pts_nil) (fun _ _ _ _ _ => (pe_op op_mul (pv 14) (pv 11)))) pa_nil))))) (pss_one (ps_ret pe_bl)) pss_nil)
      (pss_cons (ps_if (PW.pt (pw_or (pt_cmpR op_ne (pe_cmpR (op_ownEq T.ow_Prices T.m_Prices___eq__.at_ T.m_Prices___eq__.fn (fnR_of (ok_Prices___eq__ T) T.b_Prices___eq__) (hr.mono (by decide)) pass0) (pv 9) (pv 10) (nomark _)) (pe_cmpR (op_eqD hr.units) (pv 4) (pv 5) (nomark _)) (nomark _)) (pw_or (pt_cmpR op_ne (pe_cmpR (op_ownNe T.ow_Prices T.m_Prices___eq__.at_ T.m_Prices___eq__.fn (fnR_of (ok_Prices___eq__ T) T.b_Prices___eq__) (hr.mono (by decide)) pass0) (pv 9) (pv 10) (nomark _)) (pe_cmpR (op_neD hr.units) (pv 4) (pv 5) (nomark _)) (nomark _)) (pw_or1 (pt_cmpR (op_ownEq T.ow_Prices T.m_Prices___eq__.at_ T.m_Prices___eq__.fn (fnR_of (ok_Prices___eq__ T) T.b_Prices___eq__) (hr.mono (by decide)) pass0) (pv 9) (pe_callTy (r := rTupS K) (call_tuple_of) (by rfl) T.b_tuple boot_tuple (pa_cons (pv 4) pa_nil)) (nomark _)))))) (pss_one (ps_ret pe_bl)) pss_nil)
      (pss_cons (ps_set (i := 12) sc_law.nd rfl (Or.inr rfl) (pe_lc (own := [("_law_k", 13)]) rfl sc_law.nd (pi_range1 (by rfl) T.b_range (pa_cons pe_int pa_nil)) (blkOk_by (own := [("_law_k", 13)]) (N := n_law) (sc := defScope s_law) (scope := { kind := PySem.ScopeKind.function, names := [ (PySem.Str.ofString ".0", PySem.NameKind.local), (PySem.Str.ofString "_law_k", PySem.NameKind.local), (PySem.Str.ofString "_law_drawn", PySem.NameKind.globalImplicit), (PySem.Str.ofString "_law_one", PySem.NameKind.free), (PySem.Str.ofString "_law_state", PySem.NameKind.free)], isGenerator := false, isCoroutine := false, more := [] : PySem.Scope }) (by decide +kernel)) (fun _ _ _ _ _ => (pg_name (i := 13) sc_law.nd rfl (Or.inl rfl))) (fun _ _ _ _ _ => pts_nil) (fun _ _ _ _ _ => (pe_ifExp (pt_cmpR op_eq (pe_call (ok__law_drawn T) (hr.mono (by decide)) (by rfl) T.g__law_drawn T.F__law_drawn.kp T.b__law_drawn .nil pass0 (pa_cons (pv 1) (pa_cons pe_int pa_nil))) pe_int (nomark _)) (pe_ix (r := rIxL K) ix_list (pv 4) (pv 13) (fun _ _ => rfl)) (pe_ix (r := rIxL K) ix_list (pe_lst (pa_cons (pe_op op_sub pe_int pe_int) (pa_cons (pe_op op_add (pe_op op_pow pe_int pe_int) pe_int) pa_nil))) (pe_call (ok__law_drawn T) (hr.mono (by decide)) (by rfl) T.g__law_drawn T.F__law_drawn.kp T.b__law_drawn .nil pass0 (pa_cons (pv 1) (pa_cons pe_int pa_nil))) (fun _ _ => rfl))))))
      (pss_one (ps_if (pt_not (pt_val (pe_call (ok__law_agrees T) (hr.mono (by decide)) (by rfl) T.g__law_agrees T.F__law_agrees.kp T.b__law_agrees .nil pass0 (pa_cons (pe_callZ (ok__law_outcome T) (hr.mono (by decide)) (by rfl) T.g__law_outcome T.F__law_outcome.kp T.b__law_outcome .nil (pa_cons (pe_lamE TB rfl TBm rfl TBu rfl (fun y hy e => ndef_free (sc := defScope s_law) (fr := []) (by decide +kernel) y hy e)) pa_nil)) (pa_cons (pv 12) pa_nil))))) (pss_one (ps_ret pe_bl)) pss_nil)))))))))))))
      (pss_one (ps_ret pe_bl)))), ?_⟩
    refine ⟨_, rfl, l, cells, rfl, hS, hn, fun h H1 hh e1 hs1 => ?_⟩
    refine q_forR1 (n := 8) (ea_cons ev_c ea_nil) ⟨by decide, by decide⟩ (fun _ σ' H' => (∃ x2 x3 x4 x5 x6 x7 x8 x9 x10 x11 x12 x13 x14, σ' = [some (.ref l), some (.ref h), x2, x3, x4, x5, x6, x7, x8, x9, x10, x11, x12, x13, x14]) ∧ HS H' h l ∧ SqL K (Fx h l H') l (cells.map V.int) ∧ TabsN [(Z.tb_law, nmLaw)] H')
      (fun H2 e2 => ⟨⟨_, _, _, _, _, _, _, _, _, _, _, _, _, rfl⟩, hs1.mono e2, sql_fx hh hS (e1.trans e2), (T0.ext e1).ext e2⟩) ?_ (fun σ' H' q => ?_)
    · rintro turn σ' H0 ht ⟨⟨_, _, _, _, _, _, _, _, _, _, _, _, _, rfl⟩, hs0, hc0, T1⟩
      -- the greatest price
      refine x_asgI (A := fun i => i = 4 ∨ i = 1000000) hs0 ((xi_pick (K := K) (n := 2) (ns := [4, 1000000]) (B := fun i => 0 ≤ i ∧ i < 2) (el_lst (ea_cons ev_c (ea_cons (Ev.int_eq (ev_op ev_c ev_c (rv_I ⟨by decide, by decide, by decide⟩)) p6) ea_nil)) (by show 2 ≤ 100000; decide))
        (xi_dr (cells := cells) (ex_l fx_wn hc0) (fun G => ev_var rfl) (xi_ev ev_c rfl) (by decide) (by decide)) (fun i q => by simpa using q)).imp fun i q => by simpa using q) fun high H2 d2 hh2 => ?_
      have hc2 := ex_l (fx_dr d2) hc0
      have T2 := tabs_dr hs0 d2 T1
      have hhi : 0 ≤ high ∧ high ≤ 1000000 := by omega
      -- prices, others
      refine x_asg d2.hs (x_lcR (A := fun x => 0 ≤ x ∧ x ≤ 1000000) (n := 3) (ea_cons ev_c ea_nil) ⟨by decide, by decide⟩ (fun _ => rfl) (fun i G dG hi => xi_if (xt_test (xb_cmp (xi_dr (cells := cells) (ex_l dG.ex (ex_l fx_wn hc2)) (fun G => ev_var rfl) (xi_ev ev_c rfl) (by decide) (by decide)) (xi_ev (A := fun _ => True) ev_c trivial)))
        ((xi_dr (cells := cells) (n := high + 1) (ex_l dG.ex (ex_l fx_wn hc2)) (fun G => ev_var rfl) (xi_op0 (A := fun i => i = high) (B := fun i => i = 1) (xi_ev (ev_var rfl) rfl) (xi_ev ev_c rfl) (fun i j a b => by omega)) (by omega) (by omega)).imp fun v q => by omega) (xi_ev (ev_var rfl) hhi))) fun v H3 d3 ⟨p1, one, ev1, h1, l1, m1⟩ => ?_
      subst ev1
      have hc3 := ex_l (fx_dr d3) hc2
      have T3 := tabs_dr d2.hs d3 T2
      have hL1 : SqL K (Fx h l H3) p1 (one.map V.int) := fx_lst h1
      refine x_asg d3.hs (x_lcR (A := fun x => 0 ≤ x ∧ x ≤ 1000000) (n := 3) (ea_cons ev_c ea_nil) ⟨by decide, by decide⟩ (fun _ => rfl) (fun i G dG hi => xi_if (xt_test (xb_cmp (xi_dr (cells := cells) (ex_l dG.ex (ex_l fx_wn hc3)) (fun G => ev_var rfl) (xi_ev ev_c rfl) (by decide) (by decide)) (xi_ev (A := fun _ => True) ev_c trivial)))
        (xi_ev (ev_ixL (ev_var rfl) (ex_l dG.ex (ex_l fx_wn hL1)) (ev_var rfl) (atI_mapI (by omega) (by omega))) (in6 m1 _))
        ((xi_dr (cells := cells) (n := high + 1) (ex_l dG.ex (ex_l fx_wn hc3)) (fun G => ev_var rfl) (xi_op0 (A := fun i => i = high) (B := fun i => i = 1) (xi_ev (ev_var rfl) rfl) (xi_ev ev_c rfl) (fun i j a b => by omega)) (by omega) (by omega)).imp fun v q => by omega))) fun v H4 d4 ⟨p2, other, ev2, h2, l2, m2⟩ => ?_
      subst ev2
      have hc4 := ex_l (fx_dr d4) hc3
      have T4 := tabs_dr d3.hs d4 T3
      have hL1 := ex_l (fx_dr d4) hL1
      have hL2 : SqL K (Fx h l H4) p2 (other.map V.int) := fx_lst h2
      have n1 : one.length = 3 := by omega
      have n2 : other.length = 3 := by omega
      have hs4 := d4.hs
      -- the two prices, the times
      refine q_two (A := fun t => -1 ≤ t ∧ t < 4) hs4 (ea_cons (ev_ixL (ev_var rfl) (ex_l fx_in hL1) ev_c (atI_mapI (i := 0) (by decide) (by omega))) (ea_cons (ev_ixL (ev_var rfl) (ex_l fx_in hL1) ev_c (atI_mapI (i := 1) (by decide) (by omega))) (ea_cons (ev_ixL (ev_var rfl) (ex_l fx_in hL1) ev_c (atI_mapI (i := 2) (by decide) (by omega))) ea_nil))) (flt_in (in6 m1 _) (in6 m1 _) (in6 m1 _)) (ea_cons (ev_ixL (ev_var rfl) (ex_l fx_in hL2) ev_c (atI_mapI (i := 0) (by decide) (by omega))) (ea_cons (ev_ixL (ev_var rfl) (ex_l fx_in hL2) ev_c (atI_mapI (i := 1) (by decide) (by omega))) (ea_cons (ev_ixL (ev_var rfl) (ex_l fx_in hL2) ev_c (atI_mapI (i := 2) (by decide) (by omega))) ea_nil))) (flt_in (in6 m2 _) (in6 m2 _) (in6 m2 _))
        (xi_op0 (D := fun t => -1 ≤ t ∧ t < 4) (B := fun i => i = 1) (xi_dr (cells := cells) (n := 5) (ex_l fx_wn hc4) (fun G => ev_var rfl) (xi_ev ev_c rfl) (by decide) (by decide)) (xi_ev ev_c rfl) (fun i j a b => by omega)) fun pa pb times S8 d48 hPa hPb ht => ?_
      have hPa : PriAt K Z (Fx h l S8) pa one := by rw [three n1]; exact hPa
      have hPb : PriAt K Z (Fx h l S8) pb other := by rw [three n2]; exact hPb
      have hs8 := d48.hs
      have hc8 := ex_l (fx_dr d48) hc4
      have T8 := tabs_dr hs4 d48 T4
      have hL1 := ex_l (fx_dr d48) hL1
      have hL2 := ex_l (fx_dr d48) hL2
      -- how many
      refine (xi_dr (cells := cells) (n := 99) (ex_l fx_wn hc8) (fun G => ev_var rfl) (xi_ev ev_c rfl) (by decide) (by decide)) S8 (Dr.refl hs8) _ fun v H9 d9 ⟨baked, ev, hb⟩ => ?_
      subst ev
      have hc9 := ex_l (fx_dr d9) hc8
      refine (xi_dr (cells := cells) (n := 1000000000000000000) (ex_l fx_wn hc9) (fun G => ev_var rfl) (xi_ev (Ev.int_eq (ev_op ev_c ev_c (rv_I ⟨by decide, by decide, by decide⟩)) p18) rfl) (by decide) (by decide)) H9 (Dr.refl d9.hs) _ fun v H10 d10 ⟨sold, ev, hso⟩ => ?_
      subst ev
      have hc10 := ex_l (fx_dr d10) hc9
      refine (xi_dr (cells := cells) (n := 99) (ex_l fx_wn hc10) (fun G => ev_var rfl) (xi_ev ev_c rfl) (by decide) (by decide)) H10 (Dr.refl d10.hs) _ fun v H11 d11 ⟨thrown, ev, hth⟩ => ⟨_, _, _, rfl, ?_⟩
      subst ev
      have dD := (d9.trans d10).trans d11
      have hs11 := dD.hs
      have hc11 := ex_l (fx_dr d11) hc10
      have T11 := tabs_dr hs8 dD T8
      have hL1 := ex_l (fx_dr dD) hL1
      have hL2 := ex_l (fx_dr dD) hL2
      have hPa := hPa.mono (fx_dr dD)
      have hPb := hPb.mono (fx_dr dD)
      have o0 := in6 m1 0
      have o1 := in6 m1 1
      have o2 := in6 m1 2
      -- the profit
      refine q_when (b := false) (et_test (ev_is (ev_op (Ev.int_eq (i := gain one baked sold thrown) (j := one.getD 0 0 * sold - one.getD 1 0 * baked - one.getD 2 0 * thrown) (ev_pcall (ev_var rfl) (hPa.mono fx_in) (ea_cons (ev_var rfl) (ea_cons (ev_var rfl) (ea_cons (ev_var rfl) ea_nil))) (in6 m1)) (by unfold gain; rw [Int.mul_comm sold, Int.mul_comm baked, Int.mul_comm thrown]))
        (ev_op (ev_op (ev_op (ev_ixL (ev_var rfl) (ex_l fx_in hL1) ev_c (atI_mapI (i := 0) (by decide) (by omega))) (ev_var rfl) (rv_I (wide_ok (by omega)))) (ev_op (ev_ixL (ev_var rfl) (ex_l fx_in hL1) ev_c (atI_mapI (i := 1) (by decide) (by omega))) (ev_var rfl) (rv_I (wide_ok (by omega)))) rv_I0) (ev_op (ev_ixL (ev_var rfl) (ex_l fx_in hL1) ev_c (atI_mapI (i := 2) (by decide) (by omega))) (ev_var rfl) (rv_I (wide_ok (by omega)))) rv_I0) (rv_ne rfl)) (by simp))) (fun hb => nomatch hb) fun _ H12 e12 => ?_
      have hs12 := hs11.mono e12
      have hc12 := ex_l (fx_ex e12) hc11
      have T12 := T11.ext e12
      have hL1 := ex_l (fx_ex e12) hL1
      have hL2 := ex_l (fx_ex e12) hL2
      have hPa := hPa.mono (fx_ex e12)
      have hPb := hPb.mono (fx_ex e12)
      -- the sum
      refine q_outE (ns := addL one other) (out_lamE T12 fun f c' H13 eN hf hc Hz N fz => ?_) rfl (fun G' en Q q => ?_) fun H13 en T13 => ?_
      · refine lam_cal (N := ["_law_a", "_law_b"]) (ps := []) (fr := ["_law_a", "_law_b"]) (k := 8) (S0 := H13) (clo_frz (js := [9, 10]) fz hf hc rfl (fun y hy e => ndef_free (sc := defScope s_law) (fr := []) (by decide +kernel) y hy e) (ndef_fr (sc := defScope s_law) (by decide +kernel)) rfl) (nscope_by (by dsimp only; decide +kernel)) backsX (fun _ _ us hl => match us, hl with | [], _ => rfl) (fun vs H Q E q => by rw [q.1]; rfl) fz.ex_
          (cl_none fz (fun y hy e => ndef_free (sc := defScope s_law) (fr := []) (by decide +kernel) y hy e)) (fun A outer s H vs Q E hr eS x0 q => ?_)
        obtain ⟨rfl, rr⟩ := q
        have hA := (hPa.mono ((fx_ext eN).trans fx_in)).mono x0
        have hB := (hPb.mono ((fx_ext eN).trans fx_in)).mono x0
        obtain ⟨dx, fs, hi⟩ := hA.inst
        obtain ⟨dy, gs, hj⟩ := hB.inst
        refine ⟨_, pe_op (op_ownB T.ow_Prices (add_at T.m_Prices___add__.at_) T.m_Prices___add__.fn (fnR_of (okX_Prices___add__ T hP) T.b_Prices___add__) (hr.mono (by decide)) (passes_call (takes_of rfl rfl rfl rfl) (fun _ _ _ _ h => h))) (pv 0) (pv 1), ?_⟩
        exact ⟨_, rfl, _, rfl, pa, pb, dx, dy, fs, gs, rfl, rfl, hi, hj, pa, pb, one, other, rfl, hA, hB, res_mix rr⟩
      · have k1 := ex_l (fx_ext en |>.trans fx_in) hL1
        have k2 := ex_l (fx_ext en |>.trans fx_in) hL2
        exact (el_lcR (n := 3) (fun i => .int (one.getD i 0 + other.getD i 0)) (ea_cons ev_c ea_nil) ⟨by decide, by decide⟩ (fun _ => rfl) (fun i G e hi => ev_op (ev_ixL (ev_var rfl) (ex_l e k1) (ev_var rfl) (atI_mapI (by omega) (by omega))) (ev_ixL (ev_var rfl) (ex_l e k2) (ev_var rfl) (atI_mapI (by omega) (by omega))) rv_I0)) G' (Ex.refl _) _ fun a H3 _ e3 h3 => q a H3 e3 (sq_of h3)
      have hs13 := hs_ext en hs12
      have hc13 := ex_l (fx_ext en) hc12
      have hL1 := ex_l (fx_ext en) hL1
      have hL2 := ex_l (fx_ext en) hL2
      have hPa := hPa.mono (fx_ext en)
      have hPb := hPb.mono (fx_ext en)
      -- the product
      refine q_outE (ns := mulL one times) (out_lamD T13 fun f c' t H14 eN hf hc htt Hz N fz => ?_) rfl (fun G' en Q q => ?_) fun H14 en T14 => ?_
      · refine lam_calD (N := ["_law_c", "_law_a", "_law_times"]) (p := "_law_c") (fr := ["_law_a", "_law_times"]) (k := 8) (S0 := H14) (clo_frz (js := [9, 11]) fz hf hc rfl (fun y hy e => ndef_free (sc := defScope s_law) (fr := []) (by decide +kernel) y hy e) (ndef_fr (sc := defScope s_law) (by decide +kernel)) rfl) (fz.ex_ _ _ htt) (nscope_by (by dsimp only; decide +kernel)) backsX (fun _ _ u s o n ho hs => BindsTo.of_defaults (T := t) rfl ho hs rfl rfl) (fun vs H Q E q => q.1) fz.ex_
          (cl_none fz (fun y hy e => ndef_free (sc := defScope s_law) (fr := []) (by decide +kernel) y hy e)) (fun A outer s H Q E hr eS x0 q => ?_)
        obtain ⟨_, rr⟩ := q
        have hA := (hPa.mono ((fx_ext eN).trans fx_in)).mono x0
        obtain ⟨dx, fs, hi⟩ := hA.inst
        refine ⟨_, pe_op (op_ownMul T.ow_Prices T.m_Prices___mul__.at_ T.m_Prices___mul__.fn (fnR_of (okX_Prices___mul__ T hP) T.b_Prices___mul__) (hr.mono (by decide)) (passes_call (takes_of rfl rfl rfl rfl) (fun _ _ _ _ h => h))) (pv 1) (pv 2), ?_⟩
        exact ⟨_, rfl, _, rfl, pa, times, dx, fs, rfl, rfl, hi, pa, one, times, rfl, hA, by omega, res_mix rr⟩
      · have k1 := ex_l (fx_ext en |>.trans fx_in) hL1
        refine (el_lcL (fun _ => true) (fun i => .int (one.getD i 0 * times)) (ev_var (by rfl)) k1 (by rw [List.length_map]; omega) (fun _ => rfl) (fun _ _ _ _ _ => et_yes) (fun i x G e hi _ => ?_)) G' (Ex.refl _) _ fun a H3 _ e3 h3 => q a H3 e3 (sq_of ?_)
        · obtain ⟨rfl, _⟩ := at_map hi
          exact ev_op (ev_var rfl) (ev_var rfl) (rv_I (wide_ok (by omega)))
        · rw [h3, List.length_map, n1, given_all]; rfl
      have hs14 := hs_ext en hs13
      have hc14 := ex_l (fx_ext en) hc13
      have hL1 := ex_l (fx_ext en) hL1
      have hL2 := ex_l (fx_ext en) hL2
      have hPa := hPa.mono (fx_ext en)
      have hPb := hPb.mono (fx_ext en)
      -- equal or not
      refine q_when (b := false) (et_is (et_or (et_test (ev_op (ev_peq (ev_var rfl) (ev_var rfl) (hPa.mono fx_in) (hPb.mono fx_in)) (ev_eqLi (ev_var rfl) (ev_var rfl) (ex_l fx_in hL1) (ex_l fx_in hL2)) (rv_ne rfl))) fun _ => et_or (et_test (ev_op (ev_pne (ev_var rfl) (ev_var rfl) (hPa.mono fx_in) (hPb.mono fx_in)) (ev_neLi (ev_var rfl) (ev_var rfl) (ex_l fx_in hL1) (ex_l fx_in hL2)) (rv_ne rfl))) fun _ => et_test (ev_petup (ev_var rfl) (eu_tupV (ev_var rfl) (ex_l fx_in hL1)) (hPa.mono fx_in))) (by simp)) (fun hb => nomatch hb) fun _ H15 e15 => ?_
      have hs15 := hs14.mono e15
      have hc15 := ex_l (fx_ex e15) hc14
      have T15 := T14.ext e15
      have hL1 := ex_l (fx_ex e15) hL1
      -- wrong ones
      refine x_asg hs15 (x_lcR (A := fun _ => True) (n := 3) (ea_cons ev_c ea_nil) ⟨by decide, by decide⟩ (fun _ => rfl) (fun i G dG hi => xi_if (xt_test (xb_eq (xi_dr (cells := cells) (ex_l dG.ex (ex_l fx_wn hc15)) (fun G => ev_var rfl) (xi_ev ev_c rfl) (by decide) (by decide)) (xi_ev (A := fun _ => True) ev_c trivial)))
        (xi_ev (ev_ixL (ev_var rfl) (ex_l dG.ex (ex_l fx_wn hL1)) (ev_var rfl) (atI_mapI (by omega) (by omega))) trivial)
        ((xi_pick (K := K) (n := 2) (ns := [0 - 1, 1000000 + 1]) (B := fun i => 0 ≤ i ∧ i < 2) (el_lst (ea_cons (ev_op ev_c ev_c rv_I0) (ea_cons (ev_op (Ev.int_eq (ev_op ev_c ev_c (rv_I ⟨by decide, by decide, by decide⟩)) p6) ev_c rv_I0) ea_nil)) (by show 2 ≤ 100000; decide))
          (xi_dr (cells := cells) (ex_l dG.ex (ex_l fx_wn hc15)) (fun G => ev_var rfl) (xi_ev ev_c rfl) (by decide) (by decide)) (fun i q => by simpa using q)).imp fun _ _ => trivial))) fun v H16 d16 ⟨p3, wrong, ev3, h3, l3, _⟩ => ?_
      subst ev3
      have hs16 := d16.hs
      have hc16 := ex_l (fx_dr d16) hc15
      have T16 := tabs_dr hs15 d16 T15
      have hL3 : SqL K (Fx h l H16) p3 (wrong.map V.int) := fx_lst h3
      have n3 : wrong.length = 3 := by omega
      refine s_outE (ns := wrong) (out_lamE T16 fun f c' H17 eN hf hc Hz N fz => ?_) n3 (fun G' en Q q => (ev_var rfl) G' (Ex.refl _) _ fun H3 e3 => q p3 H3 e3 (ex_l (((fx_ext en).trans fx_in).trans e3) hL3)) fun H17 en T17 => ⟨⟨_, _, _, _, _, _, _, _, _, _, _, _, _, rfl⟩, hs_ext en hs16, ex_l (fx_ext en) hc16, T17⟩
      refine lam_cal (N := ["_law_wrong"]) (ps := []) (fr := ["_law_wrong"]) (k := 8) (S0 := H17) (clo_frz (js := [12]) fz hf hc rfl (fun y hy e => ndef_free (sc := defScope s_law) (fr := []) (by decide +kernel) y hy e) (ndef_fr (sc := defScope s_law) (by decide +kernel)) rfl) (nscope_by (by dsimp only; decide +kernel)) backsX (fun _ _ us hl => match us, hl with | [], _ => rfl) (fun vs H Q E q => by rw [q.1]; rfl) fz.ex_
        (cl_none fz (fun y hy e => ndef_free (sc := defScope s_law) (fr := []) (by decide +kernel) y hy e)) (fun A outer s H vs Q E hr eS x0 q => ?_)
      obtain ⟨rfl, rr⟩ := q
      have k3 := ex_l x0 (ex_l ((fx_ext eN).trans fx_in) hL3)
      refine ⟨_, pe_make T.mk_Prices (okM_Prices___init__ T hP) (hr.mono (by decide)) (by rfl) T.g_Prices T.b_Prices___init__ .nil (passes_call (takes_of rfl rfl rfl rfl) (fun _ _ _ _ h => h)) (pa_cons (pe_ix (r := rIxL K) ix_list (pv 0) pe_int (fun _ _ => rfl)) (pa_cons (pe_ix (r := rIxL K) ix_list (pv 0) pe_int (fun _ _ => rfl)) (pa_cons (pe_ix (r := rIxL K) ix_list (pv 0) pe_int (fun _ _ => rfl)) pa_nil))), ?_⟩
      rw [three n3] at rr
      exact r_res (ea_cons (ev_ixL (ev_var rfl) k3 ev_c (atI_mapI (i := 0) (by decide) (by omega))) (ea_cons (ev_ixL (ev_var rfl) k3 ev_c (atI_mapI (i := 1) (by decide) (by omega))) (ea_cons (ev_ixL (ev_var rfl) k3 ev_c (atI_mapI (i := 2) (by decide) (by omega))) ea_nil))) (res_mix rr)
    · exact s_ret ev_c fun H2 _ => k H2
end Sw
namespace Sw
open PySem PySem.Spec PyProof.Rows L2 Evl
theorem all_mk {l : PySem.W.OpenLaw} {w : World} {K : PySem.W.Frag} {h : Heap} {mg : Str → Option Value} {fa c_Prices c_LoafError c_InvalidPrices f_InvalidPrices___init__ ka_InvalidPrices___init__ cc_InvalidPrices___init__ f_check_price f_Prices___init__ f_Prices_cents pr_Prices_cents f_Prices___call__ f_Prices___add__ f_Prices___mul__ f_Prices___eq__ f__law_start f__law_drawn f__law_same f__law_outcome f__law_fault f__law_agrees f_law ka_law tb_law : Addr} (X : K.In h) (G : h.Ns mainGlobals mg) (hfa : mg "law" = some (.ref fa))
    {t_MOST_CENTS : Tok}
    {od_InvalidPrices___init__ an_InvalidPrices___init__ : Option Addr} {sl_InvalidPrices___init__ : Array (Option Value)} {oc_InvalidPrices___init__ kV_InvalidPrices___init__ dc_InvalidPrices___init__ pm_InvalidPrices___init__ ct_InvalidPrices___init__ : Value}
    {oe_InvalidPrices___init__ ol_InvalidPrices___init__ : Value} {oo_InvalidPrices___init__ om_InvalidPrices___init__ : Option Addr} {vc_InvalidPrices___init__ : Array Value} {os_InvalidPrices___init__ ot_InvalidPrices___init__ : Array (Option Value)} {file_InvalidPrices___init__ : Str} {tf_InvalidPrices___init__ : Tok}
    {nm_InvalidPrices q_InvalidPrices : Str} {N_InvalidPrices : Addr} {bs_InvalidPrices bm_InvalidPrices : List Value} {sn_InvalidPrices : List Str} {sub_InvalidPrices : List Value} {ab_InvalidPrices : Bool} {col_InvalidPrices : Option Bool} {dd_InvalidPrices : Option Addr} {m0_InvalidPrices m1_InvalidPrices m2_InvalidPrices m3_InvalidPrices m5_InvalidPrices : Option Value}
    {od_check_price an_check_price : Option Addr} {sl_check_price : Array (Option Value)} {oc_check_price kV_check_price dc_check_price pm_check_price cd_check_price ct_check_price : Value}
    {od_Prices___init__ an_Prices___init__ : Option Addr} {sl_Prices___init__ : Array (Option Value)} {oc_Prices___init__ kV_Prices___init__ dc_Prices___init__ pm_Prices___init__ cd_Prices___init__ ct_Prices___init__ : Value}
    {od_Prices_cents an_Prices_cents : Option Addr} {sl_Prices_cents : Array (Option Value)} {oc_Prices_cents kV_Prices_cents dc_Prices_cents pm_Prices_cents cd_Prices_cents ct_Prices_cents : Value}
    {rs_Prices_cents : List Value}
    {od_Prices___call__ an_Prices___call__ : Option Addr} {sl_Prices___call__ : Array (Option Value)} {oc_Prices___call__ kV_Prices___call__ dc_Prices___call__ pm_Prices___call__ cd_Prices___call__ ct_Prices___call__ : Value}
    {od_Prices___add__ an_Prices___add__ : Option Addr} {sl_Prices___add__ : Array (Option Value)} {oc_Prices___add__ kV_Prices___add__ dc_Prices___add__ pm_Prices___add__ cd_Prices___add__ ct_Prices___add__ : Value}
    {od_Prices___mul__ an_Prices___mul__ : Option Addr} {sl_Prices___mul__ : Array (Option Value)} {oc_Prices___mul__ kV_Prices___mul__ dc_Prices___mul__ pm_Prices___mul__ cd_Prices___mul__ ct_Prices___mul__ : Value}
    {od_Prices___eq__ an_Prices___eq__ : Option Addr} {sl_Prices___eq__ : Array (Option Value)} {oc_Prices___eq__ kV_Prices___eq__ dc_Prices___eq__ pm_Prices___eq__ cd_Prices___eq__ ct_Prices___eq__ : Value}
    {od__law_start an__law_start : Option Addr} {sl__law_start : Array (Option Value)} {oc__law_start kV__law_start dc__law_start pm__law_start cd__law_start ct__law_start : Value}
    {od__law_drawn an__law_drawn : Option Addr} {sl__law_drawn : Array (Option Value)} {oc__law_drawn kV__law_drawn dc__law_drawn pm__law_drawn cd__law_drawn ct__law_drawn : Value}
    {od__law_same an__law_same : Option Addr} {sl__law_same : Array (Option Value)} {oc__law_same kV__law_same dc__law_same pm__law_same cd__law_same ct__law_same : Value}
    {od__law_outcome an__law_outcome : Option Addr} {sl__law_outcome : Array (Option Value)} {oc__law_outcome kV__law_outcome dc__law_outcome pm__law_outcome cd__law_outcome ct__law_outcome : Value}
    {od__law_fault an__law_fault : Option Addr} {sl__law_fault : Array (Option Value)} {oc__law_fault kV__law_fault dc__law_fault pm__law_fault cd__law_fault ct__law_fault : Value}
    {od__law_agrees an__law_agrees : Option Addr} {sl__law_agrees : Array (Option Value)} {oc__law_agrees kV__law_agrees dc__law_agrees pm__law_agrees cd__law_agrees ct__law_agrees : Value}
    {od_law an_law : Option Addr} {sl_law : Array (Option Value)} {oc_law kV_law dc_law pm_law ct_law : Value}
    {oe_law : Value} {oo_law : Option Addr} {vc_law : Array Value} {os_law : Array (Option Value)}
    (g_Prices : PySem.W.nsIn K mainGlobals "Prices" = some (some (.ref c_Prices)))
    (pg_Prices : PySem.W.plainGet K c_Prices Str.empty = true)
    (hd_Prices : PySem.W.hasDictIn K c_Prices = true)
    (po_Prices : PySem.W.plainOver K c_Prices = true)
    (sa_Prices : PySem.W.findIn K (.ref c_Prices) "__setattr__" = some (some (.builtin "object.__setattr__")))
    (mk_Prices : PySem.W.makesIn K c_Prices = true)
    (kc_Prices : PySem.W.keepIn K (.ref c_Prices) = true)
    (na_Prices__cents : PySem.W.findIn K (.ref c_Prices) "_cents" = some none)
    (g_MOST_CENTS : PySem.W.nsIn K mainGlobals "MOST_CENTS" = some (some (.int 1000000 t_MOST_CENTS)))
    (b_bool : PySem.W.nsIn K mainGlobals "bool" = some none)
    (b_int : PySem.W.nsIn K mainGlobals "int" = some none)
    (b_isinstance : PySem.W.nsIn K mainGlobals "isinstance" = some none)
    (b_len : PySem.W.nsIn K mainGlobals "len" = some none)
    (b_list : PySem.W.nsIn K mainGlobals "list" = some none)
    (b_range : PySem.W.nsIn K mainGlobals "range" = some none)
    (b_super : PySem.W.nsIn K mainGlobals "super" = some none)
    (b_tuple : PySem.W.nsIn K mainGlobals "tuple" = some none)
    (g_LoafError : PySem.W.nsIn K mainGlobals "LoafError" = some (some (.ref c_LoafError)))
    (g_InvalidPrices : PySem.W.nsIn K mainGlobals "InvalidPrices" = some (some (.ref c_InvalidPrices)))
    (xe_base : PySem.W.subIn K (.ref c_LoafError) (.type "BaseException") = some true)
    (xe_dict : PySem.W.hasDictIn K c_LoafError = true)
    (xe_type : PySem.W.typeIn K (.ref c_LoafError) = some (.type "type"))
    (xe_any : PySem.W.nsIn K cStatics "thirdparty.any" = some none)
    (xe_top : (l.prog.main.scope.names.lookup ("super" : Str)).isSome = false)
    (xe_cg : PySem.W.specialIn K (.builtin "object.__class__") "__get__" = some (some (.builtin "getset_descriptor.__get__")))
    (xe_ct : PySem.W.takesIn K (.builtin "object.__class__") = some true)
    (xL_InvalidPrices : K.lookup c_InvalidPrices = some (excClassObj nm_InvalidPrices q_InvalidPrices c_InvalidPrices N_InvalidPrices bs_InvalidPrices bm_InvalidPrices true sn_InvalidPrices sub_InvalidPrices ab_InvalidPrices col_InvalidPrices dd_InvalidPrices m0_InvalidPrices m1_InvalidPrices m2_InvalidPrices m3_InvalidPrices m5_InvalidPrices "ValueError.__new__"))
    (xr_InvalidPrices : PySem.HandSPX.refsVE bm_InvalidPrices = true)
    (xsa_InvalidPrices : PySem.W.findIn K (.ref c_InvalidPrices) "__setattr__" = some (some (.builtin "object.__setattr__")))
    (xkC_InvalidPrices : PySem.W.keepIn K (.ref c_InvalidPrices) = true)
    (xeC_InvalidPrices : PySem.W.subIn K (.ref c_InvalidPrices) (.type "BaseException") = some true)
    (xtC_InvalidPrices : PySem.W.typeIn K (.ref c_InvalidPrices) = some (.type "type"))
    (xhd_InvalidPrices : PySem.W.hasDictIn K c_InvalidPrices = true)
    (xic_InvalidPrices : PySem.W.isClsIn K c_InvalidPrices = true)
    (xga_InvalidPrices : PySem.W.findIn K (.ref c_InvalidPrices) "__getattribute__" = some (some (.builtin "BaseException.__getattribute__")))
    (xgg_InvalidPrices : PySem.W.findIn K (.ref c_InvalidPrices) "__getattr__" = some none)
    (xca_InvalidPrices : PySem.W.findIn K (.ref c_InvalidPrices) "__class__" = some (some (.builtin "object.__class__")))
    (xmo_InvalidPrices : PySem.W.mroIn K c_InvalidPrices (.type "object") = some true)
    (xi_InvalidPrices : PySem.W.findIn K (.ref c_InvalidPrices) "__init__" = some (some (.ref f_InvalidPrices___init__)))
    (xt_InvalidPrices : PySem.W.typeIn K (.ref f_InvalidPrices___init__) = some (.type "function"))
    (l_InvalidPrices___init__ : K.lookup f_InvalidPrices___init__ = some ⟨oc_InvalidPrices___init__, od_InvalidPrices___init__, .func (PySem.W.ksFn "__init__" "InvalidPrices.__init__" (defArgs s_InvalidPrices___init__) (defBody s_InvalidPrices___init__) (defScope s_InvalidPrices___init__) .none kV_InvalidPrices___init__ dc_InvalidPrices___init__ pm_InvalidPrices___init__ an_InvalidPrices___init__ (.ref ka_InvalidPrices___init__) ct_InvalidPrices___init__ cc_InvalidPrices___init__), sl_InvalidPrices___init__⟩)
    (q_InvalidPrices___init__ : PySem.W.codeIn K (.ref ka_InvalidPrices___init__) "InvalidPrices.__init__" = true)
    (lk_InvalidPrices___init__ : K.lookup ka_InvalidPrices___init__ = some ⟨oe_InvalidPrices___init__, oo_InvalidPrices___init__, .fields vc_InvalidPrices___init__, os_InvalidPrices___init__⟩)
    (vf_InvalidPrices___init__ : vc_InvalidPrices___init__[2]? = some (.str file_InvalidPrices___init__ tf_InvalidPrices___init__))
    (fi_InvalidPrices___init__ : ((l.prog.main.file : Str) == file_InvalidPrices___init__) = true)
    (ce_InvalidPrices___init__ : K.lookup cc_InvalidPrices___init__ = some ⟨ol_InvalidPrices___init__, om_InvalidPrices___init__, .cell (some (.ref c_InvalidPrices)), ot_InvalidPrices___init__⟩)
    (su_InvalidPrices___init__ : PySem.W.ks_superIn K c_InvalidPrices c_InvalidPrices "__init__" = some (some (.builtin "ValueError.__init__")))
    (sb_InvalidPrices___init__ : PySem.W.mroIn K c_InvalidPrices (.ref c_InvalidPrices) = some true)
    (sv_InvalidPrices___init__ : PySem.W.subIn K (.ref c_InvalidPrices) (.type "ValueError") = some true)
    (sL_InvalidPrices___init__ : PySem.W.subIn K (.ref c_InvalidPrices) (.ref c_LoafError) = some true)
    (xv_InvalidPrices : PySem.W.kitOne K (.ref c_InvalidPrices) (.type "ValueError") = some true)
    (xk_InvalidPrices_InvalidPrices : PySem.W.kitOne K (.ref c_InvalidPrices) (.ref c_InvalidPrices) = some true)
    (na_InvalidPrices_part : PySem.W.findIn K (.ref c_InvalidPrices) "part" = some none)
    (eb_InvalidPrices : PySem.W.subIn K (.ref c_InvalidPrices) (.type "BaseException") = some true)
    (ed_InvalidPrices : PySem.W.hasDictIn K c_InvalidPrices = true)
    (et_InvalidPrices : PySem.W.typeIn K (.ref c_InvalidPrices) = some (.type "type"))
    (es_InvalidPrices_InvalidPrices : PySem.W.subIn K (.ref c_InvalidPrices) (.ref c_InvalidPrices) = some true)
    (ws_Prices : PySem.W.selfFirst K c_Prices = true)
    (wn_Prices : PySem.W.findIn K (.ref c_Prices) "__ne__" = some (some (.builtin "object.__ne__")))
    (wo_Prices : PySem.W.mroIn K c_Prices (.type "object") = some true)
    (wt_Prices : PySem.W.subIn K (.type "tuple") (.ref c_Prices) = some false)
    (wi_Prices : PySem.W.subIn K (.type "int") (.ref c_Prices) = some false)
    (wr_Prices : PySem.W.findIn K (.ref c_Prices) "__rmul__" = some none)
    (xk_ownT_Prices : PySem.W.kitOne K (.type "tuple") (.ref c_Prices) = some false)
    (xk_ownY_Prices : PySem.W.kitOne K (.ref c_Prices) (.type "tuple") = some false)
    (xk_ownM_Prices : PySem.W.kitOne K (.ref c_Prices) (.ref c_Prices) = some true)
    (wc_Prices : PySem.W.findIn K (.ref c_Prices) "__class__" = some (some (.builtin "object.__class__")))
    (a_check_price : PySem.W.nsIn K mainGlobals "check_price" = some (some (.ref f_check_price)))
    (l_check_price : K.lookup f_check_price = some ⟨oc_check_price, od_check_price, .func (PySem.W.fnOf "check_price" "check_price" (defArgs s_check_price) (defBody s_check_price) (defScope s_check_price) .none kV_check_price dc_check_price pm_check_price an_check_price cd_check_price ct_check_price), sl_check_price⟩)
    (q_check_price : PySem.W.codeIn K cd_check_price "check_price" = true)
    (k_check_price : PySem.W.keepIn K (.ref f_check_price) = true)
    (a_Prices___init__ : PySem.W.findIn K (.ref c_Prices) "__init__" = some (some (.ref f_Prices___init__)))
    (i_Prices___init__ : PySem.W.isFn K (.ref f_Prices___init__) = true)
    (l_Prices___init__ : K.lookup f_Prices___init__ = some ⟨oc_Prices___init__, od_Prices___init__, .func (PySem.W.fnOf "__init__" "Prices.__init__" (defArgs s_Prices___init__) (defBody s_Prices___init__) (defScope s_Prices___init__) .none kV_Prices___init__ dc_Prices___init__ pm_Prices___init__ an_Prices___init__ cd_Prices___init__ ct_Prices___init__), sl_Prices___init__⟩)
    (q_Prices___init__ : PySem.W.codeIn K cd_Prices___init__ "Prices.__init__" = true)
    (k_Prices___init__ : PySem.W.keepIn K (.ref f_Prices___init__) = true)
    (a_Prices_cents : PySem.W.findIn K (.ref c_Prices) "cents" = some (some (.ref pr_Prices_cents)))
    (pg_Prices_cents : PySem.W.specialIn K (.ref pr_Prices_cents) "__get__" = some (some (.builtin "property.__get__")))
    (pt_Prices_cents : PySem.W.takesIn K (.ref pr_Prices_cents) = some true)
    (pr1_Prices_cents : PySem.W.recIn K pr_Prices_cents "property" = some (.ref f_Prices_cents :: rs_Prices_cents))
    (l_Prices_cents : K.lookup f_Prices_cents = some ⟨oc_Prices_cents, od_Prices_cents, .func (PySem.W.fnOf "cents" "Prices.cents" (defArgs s_Prices_cents) (defBody s_Prices_cents) (defScope s_Prices_cents) .none kV_Prices_cents dc_Prices_cents pm_Prices_cents an_Prices_cents cd_Prices_cents ct_Prices_cents), sl_Prices_cents⟩)
    (q_Prices_cents : PySem.W.codeIn K cd_Prices_cents "Prices.cents" = true)
    (k_Prices_cents : PySem.W.keepIn K (.ref f_Prices_cents) = true)
    (a_Prices___call__ : PySem.W.findIn K (.ref c_Prices) "__call__" = some (some (.ref f_Prices___call__)))
    (i_Prices___call__ : PySem.W.isFn K (.ref f_Prices___call__) = true)
    (l_Prices___call__ : K.lookup f_Prices___call__ = some ⟨oc_Prices___call__, od_Prices___call__, .func (PySem.W.fnOf "__call__" "Prices.__call__" (defArgs s_Prices___call__) (defBody s_Prices___call__) (defScope s_Prices___call__) .none kV_Prices___call__ dc_Prices___call__ pm_Prices___call__ an_Prices___call__ cd_Prices___call__ ct_Prices___call__), sl_Prices___call__⟩)
    (q_Prices___call__ : PySem.W.codeIn K cd_Prices___call__ "Prices.__call__" = true)
    (k_Prices___call__ : PySem.W.keepIn K (.ref f_Prices___call__) = true)
    (a_Prices___add__ : PySem.W.findIn K (.ref c_Prices) "__add__" = some (some (.ref f_Prices___add__)))
    (i_Prices___add__ : PySem.W.isFn K (.ref f_Prices___add__) = true)
    (l_Prices___add__ : K.lookup f_Prices___add__ = some ⟨oc_Prices___add__, od_Prices___add__, .func (PySem.W.fnOf "__add__" "Prices.__add__" (defArgs s_Prices___add__) (defBody s_Prices___add__) (defScope s_Prices___add__) .none kV_Prices___add__ dc_Prices___add__ pm_Prices___add__ an_Prices___add__ cd_Prices___add__ ct_Prices___add__), sl_Prices___add__⟩)
    (q_Prices___add__ : PySem.W.codeIn K cd_Prices___add__ "Prices.__add__" = true)
    (k_Prices___add__ : PySem.W.keepIn K (.ref f_Prices___add__) = true)
    (a_Prices___mul__ : PySem.W.findIn K (.ref c_Prices) "__mul__" = some (some (.ref f_Prices___mul__)))
    (i_Prices___mul__ : PySem.W.isFn K (.ref f_Prices___mul__) = true)
    (l_Prices___mul__ : K.lookup f_Prices___mul__ = some ⟨oc_Prices___mul__, od_Prices___mul__, .func (PySem.W.fnOf "__mul__" "Prices.__mul__" (defArgs s_Prices___mul__) (defBody s_Prices___mul__) (defScope s_Prices___mul__) .none kV_Prices___mul__ dc_Prices___mul__ pm_Prices___mul__ an_Prices___mul__ cd_Prices___mul__ ct_Prices___mul__), sl_Prices___mul__⟩)
    (q_Prices___mul__ : PySem.W.codeIn K cd_Prices___mul__ "Prices.__mul__" = true)
    (k_Prices___mul__ : PySem.W.keepIn K (.ref f_Prices___mul__) = true)
    (a_Prices___eq__ : PySem.W.findIn K (.ref c_Prices) "__eq__" = some (some (.ref f_Prices___eq__)))
    (i_Prices___eq__ : PySem.W.isFn K (.ref f_Prices___eq__) = true)
    (l_Prices___eq__ : K.lookup f_Prices___eq__ = some ⟨oc_Prices___eq__, od_Prices___eq__, .func (PySem.W.fnOf "__eq__" "Prices.__eq__" (defArgs s_Prices___eq__) (defBody s_Prices___eq__) (defScope s_Prices___eq__) .none kV_Prices___eq__ dc_Prices___eq__ pm_Prices___eq__ an_Prices___eq__ cd_Prices___eq__ ct_Prices___eq__), sl_Prices___eq__⟩)
    (q_Prices___eq__ : PySem.W.codeIn K cd_Prices___eq__ "Prices.__eq__" = true)
    (k_Prices___eq__ : PySem.W.keepIn K (.ref f_Prices___eq__) = true)
    (a__law_start : PySem.W.nsIn K mainGlobals "_law_start" = some (some (.ref f__law_start)))
    (l__law_start : K.lookup f__law_start = some ⟨oc__law_start, od__law_start, .func (PySem.W.fnOf "_law_start" "_law_start" (defArgs s__law_start) (defBody s__law_start) (defScope s__law_start) .none kV__law_start dc__law_start pm__law_start an__law_start cd__law_start ct__law_start), sl__law_start⟩)
    (q__law_start : PySem.W.codeIn K cd__law_start "_law_start" = true)
    (k__law_start : PySem.W.keepIn K (.ref f__law_start) = true)
    (a__law_drawn : PySem.W.nsIn K mainGlobals "_law_drawn" = some (some (.ref f__law_drawn)))
    (l__law_drawn : K.lookup f__law_drawn = some ⟨oc__law_drawn, od__law_drawn, .func (PySem.W.fnOf "_law_drawn" "_law_drawn" (defArgs s__law_drawn) (defBody s__law_drawn) (defScope s__law_drawn) .none kV__law_drawn dc__law_drawn pm__law_drawn an__law_drawn cd__law_drawn ct__law_drawn), sl__law_drawn⟩)
    (q__law_drawn : PySem.W.codeIn K cd__law_drawn "_law_drawn" = true)
    (k__law_drawn : PySem.W.keepIn K (.ref f__law_drawn) = true)
    (a__law_same : PySem.W.nsIn K mainGlobals "_law_same" = some (some (.ref f__law_same)))
    (l__law_same : K.lookup f__law_same = some ⟨oc__law_same, od__law_same, .func (PySem.W.fnOf "_law_same" "_law_same" (defArgs s__law_same) (defBody s__law_same) (defScope s__law_same) .none kV__law_same dc__law_same pm__law_same an__law_same cd__law_same ct__law_same), sl__law_same⟩)
    (q__law_same : PySem.W.codeIn K cd__law_same "_law_same" = true)
    (k__law_same : PySem.W.keepIn K (.ref f__law_same) = true)
    (a__law_outcome : PySem.W.nsIn K mainGlobals "_law_outcome" = some (some (.ref f__law_outcome)))
    (l__law_outcome : K.lookup f__law_outcome = some ⟨oc__law_outcome, od__law_outcome, .func (PySem.W.fnOf "_law_outcome" "_law_outcome" (defArgs s__law_outcome) (defBody s__law_outcome) (defScope s__law_outcome) .none kV__law_outcome dc__law_outcome pm__law_outcome an__law_outcome cd__law_outcome ct__law_outcome), sl__law_outcome⟩)
    (q__law_outcome : PySem.W.codeIn K cd__law_outcome "_law_outcome" = true)
    (k__law_outcome : PySem.W.keepIn K (.ref f__law_outcome) = true)
    (a__law_fault : PySem.W.nsIn K mainGlobals "_law_fault" = some (some (.ref f__law_fault)))
    (l__law_fault : K.lookup f__law_fault = some ⟨oc__law_fault, od__law_fault, .func (PySem.W.fnOf "_law_fault" "_law_fault" (defArgs s__law_fault) (defBody s__law_fault) (defScope s__law_fault) .none kV__law_fault dc__law_fault pm__law_fault an__law_fault cd__law_fault ct__law_fault), sl__law_fault⟩)
    (q__law_fault : PySem.W.codeIn K cd__law_fault "_law_fault" = true)
    (k__law_fault : PySem.W.keepIn K (.ref f__law_fault) = true)
    (a__law_agrees : PySem.W.nsIn K mainGlobals "_law_agrees" = some (some (.ref f__law_agrees)))
    (l__law_agrees : K.lookup f__law_agrees = some ⟨oc__law_agrees, od__law_agrees, .func (PySem.W.fnOf "_law_agrees" "_law_agrees" (defArgs s__law_agrees) (defBody s__law_agrees) (defScope s__law_agrees) .none kV__law_agrees dc__law_agrees pm__law_agrees an__law_agrees cd__law_agrees ct__law_agrees), sl__law_agrees⟩)
    (q__law_agrees : PySem.W.codeIn K cd__law_agrees "_law_agrees" = true)
    (k__law_agrees : PySem.W.keepIn K (.ref f__law_agrees) = true)
    (a_law : PySem.W.nsIn K mainGlobals "law" = some (some (.ref f_law)))
    (l_law : K.lookup f_law = some ⟨oc_law, od_law, .func (PySem.W.fnOf "law" "law" (defArgs s_law) (defBody s_law) (defScope s_law) .none kV_law dc_law pm_law an_law (.ref ka_law) ct_law), sl_law⟩)
    (q_law : PySem.W.codeIn K (.ref ka_law) "law" = true)
    (lc_law : K.lookup ka_law = some ⟨oe_law, oo_law, .fields vc_law, os_law⟩)
    (he_law : vc_law[11]? = some (.ref tb_law))
    (ch_law : PySem.W.codeHdIn K ka_law tb_law = true)
    (nt_law : K.lookup tb_law = none)
    (ht_law : h.get? tb_law = some { cls := .none, data := .fields #[] })
    (k_law : PySem.W.keepIn K (.ref f_law) = true)
    (fn_Prices : PySem.W.fnIn K f_Prices___call__ = true) :
    LamX.LawAtS l w K L2.CX0 11 63 "_law_script" mg fa h := by
  have e := hfa.symm.trans (PySem.W.mg_of X G a_law)
  cases e
  have B_InvalidPrices___init__ : Binds K (PySem.W.ksFn "__init__" "InvalidPrices.__init__" (defArgs s_InvalidPrices___init__) (defBody s_InvalidPrices___init__) (defScope s_InvalidPrices___init__) .none kV_InvalidPrices___init__ dc_InvalidPrices___init__ pm_InvalidPrices___init__ an_InvalidPrices___init__ (.ref ka_InvalidPrices___init__) ct_InvalidPrices___init__ cc_InvalidPrices___init__) p_InvalidPrices___init__ [] := Binds.all fun us hl => match us, hl with | [_, _], _ => rfl
  have F_check_price := fun_mk (st := s_check_price) l_check_price q_check_price k_check_price
  have B_check_price := F_check_price.binds (ps := p_check_price) fun _ _ _ _ _ _ us hl => match us, hl with | [_, _], _ => rfl
  have F_Prices___init__ := fun_mk (st := s_Prices___init__) l_Prices___init__ q_Prices___init__ k_Prices___init__
  have B_Prices___init__ := F_Prices___init__.binds (ps := p_Prices___init__) fun _ _ _ _ _ _ us hl => match us, hl with | [_, _, _, _], _ => rfl
  have F_Prices_cents := fun_mk (st := s_Prices_cents) l_Prices_cents q_Prices_cents k_Prices_cents
  have B_Prices_cents := F_Prices_cents.binds (ps := p_Prices_cents) fun _ _ _ _ _ _ us hl => match us, hl with | [_], _ => rfl
  have F_Prices___call__ := fun_mk (st := s_Prices___call__) l_Prices___call__ q_Prices___call__ k_Prices___call__
  have B_Prices___call__ := F_Prices___call__.binds (ps := p_Prices___call__) fun _ _ _ _ _ _ us hl => match us, hl with | [_, _, _, _], _ => rfl
  have F_Prices___add__ := fun_mk (st := s_Prices___add__) l_Prices___add__ q_Prices___add__ k_Prices___add__
  have B_Prices___add__ := F_Prices___add__.binds (ps := p_Prices___add__) fun _ _ _ _ _ _ us hl => match us, hl with | [_, _], _ => rfl
  have F_Prices___mul__ := fun_mk (st := s_Prices___mul__) l_Prices___mul__ q_Prices___mul__ k_Prices___mul__
  have B_Prices___mul__ := F_Prices___mul__.binds (ps := p_Prices___mul__) fun _ _ _ _ _ _ us hl => match us, hl with | [_, _], _ => rfl
  have F_Prices___eq__ := fun_mk (st := s_Prices___eq__) l_Prices___eq__ q_Prices___eq__ k_Prices___eq__
  have B_Prices___eq__ := F_Prices___eq__.binds (ps := p_Prices___eq__) fun _ _ _ _ _ _ us hl => match us, hl with | [_, _], _ => rfl
  have F__law_start := fun_mk (st := s__law_start) l__law_start q__law_start k__law_start
  have B__law_start := F__law_start.binds (ps := p__law_start) fun _ _ _ _ _ _ us hl => match us, hl with | [_], _ => rfl
  have F__law_drawn := fun_mk (st := s__law_drawn) l__law_drawn q__law_drawn k__law_drawn
  have B__law_drawn := F__law_drawn.binds (ps := p__law_drawn) fun _ _ _ _ _ _ us hl => match us, hl with | [_, _], _ => rfl
  have F__law_same := fun_mk (st := s__law_same) l__law_same q__law_same k__law_same
  have B__law_same := F__law_same.binds (ps := p__law_same) fun _ _ _ _ _ _ us hl => match us, hl with | [_, _], _ => rfl
  have F__law_outcome := fun_mk (st := s__law_outcome) l__law_outcome q__law_outcome k__law_outcome
  have B__law_outcome := F__law_outcome.binds (ps := p__law_outcome) fun _ _ _ _ _ _ us hl => match us, hl with | [_], _ => rfl
  have F__law_fault := fun_mk (st := s__law_fault) l__law_fault q__law_fault k__law_fault
  have B__law_fault := F__law_fault.binds (ps := p__law_fault) fun _ _ _ _ _ _ us hl => match us, hl with | [_], _ => rfl
  have F__law_agrees := fun_mk (st := s__law_agrees) l__law_agrees q__law_agrees k__law_agrees
  have B__law_agrees := F__law_agrees.binds (ps := p__law_agrees) fun _ _ _ _ _ _ us hl => match us, hl with | [_, _], _ => rfl
  have F_law := fun_mk (st := s_law) l_law q_law k_law
  have B_law := F_law.binds (ps := p_law) fun _ _ _ _ _ _ us hl => match us, hl with | [_], _ => rfl
  have T : Txt K mg { c_Prices := c_Prices, mc_Prices := .none, t_MOST_CENTS := t_MOST_CENTS, c_LoafError := c_LoafError, c_InvalidPrices := c_InvalidPrices, P := l.prog, f_InvalidPrices___init__ := f_InvalidPrices___init__, k_InvalidPrices___init__ := ka_InvalidPrices___init__, cc_InvalidPrices___init__ := cc_InvalidPrices___init__, d_InvalidPrices___init__ := PySem.W.ksFn "__init__" "InvalidPrices.__init__" (defArgs s_InvalidPrices___init__) (defBody s_InvalidPrices___init__) (defScope s_InvalidPrices___init__) .none kV_InvalidPrices___init__ dc_InvalidPrices___init__ pm_InvalidPrices___init__ an_InvalidPrices___init__ (.ref ka_InvalidPrices___init__) ct_InvalidPrices___init__ cc_InvalidPrices___init__, f_check_price := f_check_price, d_check_price := PySem.W.fnOf "check_price" "check_price" (defArgs s_check_price) (defBody s_check_price) (defScope s_check_price) .none kV_check_price dc_check_price pm_check_price an_check_price cd_check_price ct_check_price, f_Prices___init__ := f_Prices___init__, d_Prices___init__ := PySem.W.fnOf "__init__" "Prices.__init__" (defArgs s_Prices___init__) (defBody s_Prices___init__) (defScope s_Prices___init__) .none kV_Prices___init__ dc_Prices___init__ pm_Prices___init__ an_Prices___init__ cd_Prices___init__ ct_Prices___init__, f_Prices_cents := f_Prices_cents, d_Prices_cents := PySem.W.fnOf "cents" "Prices.cents" (defArgs s_Prices_cents) (defBody s_Prices_cents) (defScope s_Prices_cents) .none kV_Prices_cents dc_Prices_cents pm_Prices_cents an_Prices_cents cd_Prices_cents ct_Prices_cents, pr_Prices_cents := pr_Prices_cents, f_Prices___call__ := f_Prices___call__, d_Prices___call__ := PySem.W.fnOf "__call__" "Prices.__call__" (defArgs s_Prices___call__) (defBody s_Prices___call__) (defScope s_Prices___call__) .none kV_Prices___call__ dc_Prices___call__ pm_Prices___call__ an_Prices___call__ cd_Prices___call__ ct_Prices___call__, f_Prices___add__ := f_Prices___add__, d_Prices___add__ := PySem.W.fnOf "__add__" "Prices.__add__" (defArgs s_Prices___add__) (defBody s_Prices___add__) (defScope s_Prices___add__) .none kV_Prices___add__ dc_Prices___add__ pm_Prices___add__ an_Prices___add__ cd_Prices___add__ ct_Prices___add__, f_Prices___mul__ := f_Prices___mul__, d_Prices___mul__ := PySem.W.fnOf "__mul__" "Prices.__mul__" (defArgs s_Prices___mul__) (defBody s_Prices___mul__) (defScope s_Prices___mul__) .none kV_Prices___mul__ dc_Prices___mul__ pm_Prices___mul__ an_Prices___mul__ cd_Prices___mul__ ct_Prices___mul__, f_Prices___eq__ := f_Prices___eq__, d_Prices___eq__ := PySem.W.fnOf "__eq__" "Prices.__eq__" (defArgs s_Prices___eq__) (defBody s_Prices___eq__) (defScope s_Prices___eq__) .none kV_Prices___eq__ dc_Prices___eq__ pm_Prices___eq__ an_Prices___eq__ cd_Prices___eq__ ct_Prices___eq__, f__law_start := f__law_start, d__law_start := PySem.W.fnOf "_law_start" "_law_start" (defArgs s__law_start) (defBody s__law_start) (defScope s__law_start) .none kV__law_start dc__law_start pm__law_start an__law_start cd__law_start ct__law_start, f__law_drawn := f__law_drawn, d__law_drawn := PySem.W.fnOf "_law_drawn" "_law_drawn" (defArgs s__law_drawn) (defBody s__law_drawn) (defScope s__law_drawn) .none kV__law_drawn dc__law_drawn pm__law_drawn an__law_drawn cd__law_drawn ct__law_drawn, f__law_same := f__law_same, d__law_same := PySem.W.fnOf "_law_same" "_law_same" (defArgs s__law_same) (defBody s__law_same) (defScope s__law_same) .none kV__law_same dc__law_same pm__law_same an__law_same cd__law_same ct__law_same, f__law_outcome := f__law_outcome, d__law_outcome := PySem.W.fnOf "_law_outcome" "_law_outcome" (defArgs s__law_outcome) (defBody s__law_outcome) (defScope s__law_outcome) .none kV__law_outcome dc__law_outcome pm__law_outcome an__law_outcome cd__law_outcome ct__law_outcome, f__law_fault := f__law_fault, d__law_fault := PySem.W.fnOf "_law_fault" "_law_fault" (defArgs s__law_fault) (defBody s__law_fault) (defScope s__law_fault) .none kV__law_fault dc__law_fault pm__law_fault an__law_fault cd__law_fault ct__law_fault, f__law_agrees := f__law_agrees, d__law_agrees := PySem.W.fnOf "_law_agrees" "_law_agrees" (defArgs s__law_agrees) (defBody s__law_agrees) (defScope s__law_agrees) .none kV__law_agrees dc__law_agrees pm__law_agrees an__law_agrees cd__law_agrees ct__law_agrees, k_law := ka_law, tb_law := tb_law, f_law := fa, d_law := PySem.W.fnOf "law" "law" (defArgs s_law) (defBody s_law) (defScope s_law) .none kV_law dc_law pm_law an_law (.ref ka_law) ct_law } :=
    { g_Prices := PySem.W.mg_of X G g_Prices,
      cl_Prices := ⟨pg_Prices, hd_Prices, po_Prices, sa_Prices⟩,
      na_Prices__cents := na_Prices__cents,
      g_MOST_CENTS := PySem.W.mg_of X G g_MOST_CENTS,
      b_bool := PySem.W.mg_none_of X G b_bool,
      b_int := PySem.W.mg_none_of X G b_int,
      b_isinstance := PySem.W.mg_none_of X G b_isinstance,
      b_len := PySem.W.mg_none_of X G b_len,
      b_list := PySem.W.mg_none_of X G b_list,
      b_range := PySem.W.mg_none_of X G b_range,
      b_super := PySem.W.mg_none_of X G b_super,
      b_tuple := PySem.W.mg_none_of X G b_tuple,
      g_LoafError := PySem.W.mg_of X G g_LoafError,
      g_InvalidPrices := PySem.W.mg_of X G g_InvalidPrices,
      xk_InvalidPrices_InvalidPrices := xk_InvalidPrices_InvalidPrices,
      na_InvalidPrices_part := na_InvalidPrices_part,
      xv_InvalidPrices := xv_InvalidPrices,
      ox_InvalidPrices := ⟨⟨_, _, _, _, _, _, _, _, _, _, _, _, _, _, _, xL_InvalidPrices, xr_InvalidPrices⟩, xsa_InvalidPrices, xeC_InvalidPrices, xtC_InvalidPrices, xkC_InvalidPrices⟩,
      xi_InvalidPrices := xi_InvalidPrices,
      xt_InvalidPrices := xt_InvalidPrices,
      xs_InvalidPrices := ⟨⟨_, _, _, _, _, _, _, _, rfl, l_InvalidPrices___init__, q_InvalidPrices___init__⟩, ⟨_, _, _, _, _, _, lk_InvalidPrices___init__, vf_InvalidPrices___init__, fi_InvalidPrices___init__⟩, ⟨_, _, _, ce_InvalidPrices___init__⟩, xe_any, su_InvalidPrices___init__, sb_InvalidPrices___init__, sv_InvalidPrices___init__, xe_top⟩,
      xI_InvalidPrices := ⟨xic_InvalidPrices, xga_InvalidPrices, xgg_InvalidPrices, xeC_InvalidPrices, xhd_InvalidPrices, xca_InvalidPrices, xe_cg, xe_ct, xmo_InvalidPrices⟩,
      xm_InvalidPrices := PySem.W.exm_ref xe_base xe_dict xe_type sL_InvalidPrices___init__,
      b_InvalidPrices___init__ := B_InvalidPrices___init__,
      xn_InvalidPrices_InvalidPrices := PySem.W.exm_ref eb_InvalidPrices ed_InvalidPrices et_InvalidPrices es_InvalidPrices_InvalidPrices,
      ow_Prices := ⟨ws_Prices, wn_Prices, wo_Prices, wt_Prices, wi_Prices, wr_Prices, xk_ownT_Prices, xk_ownY_Prices⟩,
      in_Prices := ⟨⟨pg_Prices, hd_Prices, po_Prices, sa_Prices⟩, wc_Prices, xe_cg, xe_ct, wo_Prices, xk_ownM_Prices⟩,
      co_Prices := ⟨a_Prices___call__, i_Prices___call__, fn_Prices⟩,
      g_check_price := PySem.W.mg_of X G a_check_price,
      F_check_price := F_check_price,
      b_check_price := B_check_price,
      mk_Prices := ⟨mk_Prices, a_Prices___init__, i_Prices___init__, kc_Prices⟩,
      F_Prices___init__ := F_Prices___init__,
      b_Prices___init__ := B_Prices___init__,
      pp_Prices_cents := ⟨a_Prices_cents, pg_Prices_cents, pt_Prices_cents, ⟨_, pr1_Prices_cents⟩⟩,
      F_Prices_cents := F_Prices_cents,
      b_Prices_cents := B_Prices_cents,
      m_Prices___call__ := ⟨a_Prices___call__, i_Prices___call__, k_Prices___call__⟩,
      F_Prices___call__ := F_Prices___call__,
      b_Prices___call__ := B_Prices___call__,
      m_Prices___add__ := ⟨a_Prices___add__, i_Prices___add__, k_Prices___add__⟩,
      F_Prices___add__ := F_Prices___add__,
      b_Prices___add__ := B_Prices___add__,
      m_Prices___mul__ := ⟨a_Prices___mul__, i_Prices___mul__, k_Prices___mul__⟩,
      F_Prices___mul__ := F_Prices___mul__,
      b_Prices___mul__ := B_Prices___mul__,
      m_Prices___eq__ := ⟨a_Prices___eq__, i_Prices___eq__, k_Prices___eq__⟩,
      F_Prices___eq__ := F_Prices___eq__,
      b_Prices___eq__ := B_Prices___eq__,
      g__law_start := PySem.W.mg_of X G a__law_start,
      F__law_start := F__law_start,
      b__law_start := B__law_start,
      g__law_drawn := PySem.W.mg_of X G a__law_drawn,
      F__law_drawn := F__law_drawn,
      b__law_drawn := B__law_drawn,
      g__law_same := PySem.W.mg_of X G a__law_same,
      F__law_same := F__law_same,
      b__law_same := B__law_same,
      g__law_outcome := PySem.W.mg_of X G a__law_outcome,
      F__law_outcome := F__law_outcome,
      b__law_outcome := B__law_outcome,
      g__law_fault := PySem.W.mg_of X G a__law_fault,
      F__law_fault := F__law_fault,
      b__law_fault := B__law_fault,
      g__law_agrees := PySem.W.mg_of X G a__law_agrees,
      F__law_agrees := F__law_agrees,
      b__law_agrees := B__law_agrees,
      g_law := PySem.W.mg_of X G a_law,
      FC_law := funC_mk (st := s_law) l_law q_law,
      F_law := F_law,
      b_law := B_law }
  have all : ∀ (Pr : Addr × Addr → Prop), Pr (ka_law, tb_law) → ∀ p ∈ [(ka_law, tb_law)], Pr p := fun Pr hp p hm => by
    rw [List.mem_singleton.mp hm]; exact hp
  exact ⟨PySem.W.fnOf "law" "law" (defArgs s_law) (defBody s_law) (defScope s_law) .none kV_law dc_law pm_law an_law (.ref ka_law) ct_law, [(ka_law, tb_law)], sp_lawT K tb_law, all _ ht_law, all _ nt_law, all _ (PySem.W.codeHd_of_K X ch_law), fun s v => .of_eq rfl, fun H a ns hl _ hT hS => ⟨a, ns, rfl, hS, hl, hT (ka_law, tb_law) (by simp), fun _ => rfl⟩, fun base _ _ TB => ok_law T rfl (TB (ka_law, tb_law) (by simp))⟩
end Sw

open PySem PySem.W PyProof.Rows
set_option maxRecDepth 100000 in
set_option maxHeartbeats 0 in
theorem PySem.Challenge.cw_staleloaves_k43_signs_of_prices_holds : PySem.Challenge.rw_staleloaves_k43_signs_of_prices.Holds := by
  w_on; o_law; k_head; (case hw => w_witness2)
  k_fill
  refine LamX.walk_ofTs (l := PySem.Challenge.rw_staleloaves_k43_signs_of_prices) (n := 63) (k := 11) (x := "_law_script") (CX := fun _ => L2.CX0) rfl (by decide) rfl ⟨rfl, by decide, by decide⟩ (fun w h Y => PySem.W.km_in_of Y) ?F (fun _ _ _ _ _ z => z)
  case F =>
    intro w mg fa h Y KX G hmg
    refine' Sw.all_mk KX G hmg ?g_Prices ?pg_Prices ?hd_Prices ?po_Prices ?sa_Prices ?mk_Prices ?kc_Prices ?na_Prices__cents ?g_MOST_CENTS ?b_bool ?b_int ?b_isinstance ?b_len ?b_list ?b_range ?b_super ?b_tuple ?g_LoafError ?g_InvalidPrices ?xe_base ?xe_dict ?xe_type ?xe_any ?xe_top ?xe_cg ?xe_ct ?xL_InvalidPrices ?xr_InvalidPrices ?xsa_InvalidPrices ?xkC_InvalidPrices ?xeC_InvalidPrices ?xtC_InvalidPrices ?xhd_InvalidPrices ?xic_InvalidPrices ?xga_InvalidPrices ?xgg_InvalidPrices ?xca_InvalidPrices ?xmo_InvalidPrices ?xi_InvalidPrices ?xt_InvalidPrices ?l_InvalidPrices___init__ ?q_InvalidPrices___init__ ?lk_InvalidPrices___init__ ?vf_InvalidPrices___init__ ?fi_InvalidPrices___init__ ?ce_InvalidPrices___init__ ?su_InvalidPrices___init__ ?sb_InvalidPrices___init__ ?sv_InvalidPrices___init__ ?sL_InvalidPrices___init__ ?xv_InvalidPrices ?xk_InvalidPrices_InvalidPrices ?na_InvalidPrices_part ?eb_InvalidPrices ?ed_InvalidPrices ?et_InvalidPrices ?es_InvalidPrices_InvalidPrices ?ws_Prices ?wn_Prices ?wo_Prices ?wt_Prices ?wi_Prices ?wr_Prices ?xk_ownT_Prices ?xk_ownY_Prices ?xk_ownM_Prices ?wc_Prices ?a_check_price ?l_check_price ?q_check_price ?k_check_price ?a_Prices___init__ ?i_Prices___init__ ?l_Prices___init__ ?q_Prices___init__ ?k_Prices___init__ ?a_Prices_cents ?pg_Prices_cents ?pt_Prices_cents ?pr1_Prices_cents ?l_Prices_cents ?q_Prices_cents ?k_Prices_cents ?a_Prices___call__ ?i_Prices___call__ ?l_Prices___call__ ?q_Prices___call__ ?k_Prices___call__ ?a_Prices___add__ ?i_Prices___add__ ?l_Prices___add__ ?q_Prices___add__ ?k_Prices___add__ ?a_Prices___mul__ ?i_Prices___mul__ ?l_Prices___mul__ ?q_Prices___mul__ ?k_Prices___mul__ ?a_Prices___eq__ ?i_Prices___eq__ ?l_Prices___eq__ ?q_Prices___eq__ ?k_Prices___eq__ ?a__law_start ?l__law_start ?q__law_start ?k__law_start ?a__law_drawn ?l__law_drawn ?q__law_drawn ?k__law_drawn ?a__law_same ?l__law_same ?q__law_same ?k__law_same ?a__law_outcome ?l__law_outcome ?q__law_outcome ?k__law_outcome ?a__law_fault ?l__law_fault ?q__law_fault ?k__law_fault ?a__law_agrees ?l__law_agrees ?q__law_agrees ?k__law_agrees ?a_law ?l_law ?q_law ?lc_law ?he_law ?ch_law ?nt_law ?ht_law ?k_law ?fn_Prices
    (case g_Prices => k_is)
    (case pg_Prices => k_is)
    (case hd_Prices => k_is)
    (case po_Prices => k_is)
    (case sa_Prices => k_is)
    (case mk_Prices => k_is)
    (case kc_Prices => k_is)
    (case na_Prices__cents => k_is)
    (case g_MOST_CENTS => k_is)
    (case b_bool => k_is)
    (case b_int => k_is)
    (case b_isinstance => k_is)
    (case b_len => k_is)
    (case b_list => k_is)
    (case b_range => k_is)
    (case b_super => k_is)
    (case b_tuple => k_is)
    (case g_LoafError => k_is)
    (case g_InvalidPrices => k_is)
    (case xe_base => k_is)
    (case xe_dict => k_is)
    (case xe_type => k_is)
    (case xe_any => k_is)
    (case xe_top => kernel_rfl)
    (case xe_cg => k_is)
    (case xe_ct => k_is)
    (case xL_InvalidPrices => k_is)
    (case xr_InvalidPrices => first | rfl | kernel_rfl | decide +kernel)
    (case xsa_InvalidPrices => k_is)
    (case xkC_InvalidPrices => k_is)
    (case xeC_InvalidPrices => k_is)
    (case xtC_InvalidPrices => k_is)
    (case xhd_InvalidPrices => k_is)
    (case xic_InvalidPrices => k_is)
    (case xga_InvalidPrices => k_is)
    (case xgg_InvalidPrices => k_is)
    (case xca_InvalidPrices => k_is)
    (case xmo_InvalidPrices => k_is)
    (case xi_InvalidPrices => k_is)
    (case xt_InvalidPrices => k_is)
    (case l_InvalidPrices___init__ => k_is)
    (case q_InvalidPrices___init__ => k_is)
    (case lk_InvalidPrices___init__ => k_is)
    (case vf_InvalidPrices___init__ => rfl)
    (case fi_InvalidPrices___init__ => kernel_rfl)
    (case ce_InvalidPrices___init__ => k_is)
    (case su_InvalidPrices___init__ => kernel_rfl)
    (case sb_InvalidPrices___init__ => k_is)
    (case sv_InvalidPrices___init__ => k_is)
    (case sL_InvalidPrices___init__ => k_is)
    (case xv_InvalidPrices => first | kit_is | kernel_rfl)
    (case xk_InvalidPrices_InvalidPrices => first | kit_is | kernel_rfl)
    (case na_InvalidPrices_part => k_is)
    (case eb_InvalidPrices => k_is)
    (case ed_InvalidPrices => k_is)
    (case et_InvalidPrices => k_is)
    (case es_InvalidPrices_InvalidPrices => k_is)
    (case ws_Prices => k_is)
    (case wn_Prices => k_is)
    (case wo_Prices => k_is)
    (case wt_Prices => k_is)
    (case wi_Prices => k_is)
    (case wr_Prices => k_is)
    (case xk_ownT_Prices => first | kit_is | kernel_rfl)
    (case xk_ownY_Prices => first | kit_is | kernel_rfl)
    (case xk_ownM_Prices => first | kit_is | kernel_rfl)
    (case wc_Prices => k_is)
    (case a_check_price => k_is)
    (case l_check_price => k_is)
    (case q_check_price => k_is)
    (case k_check_price => k_is)
    (case a_Prices___init__ => k_is)
    (case i_Prices___init__ => k_is)
    (case l_Prices___init__ => k_is)
    (case q_Prices___init__ => k_is)
    (case k_Prices___init__ => k_is)
    (case a_Prices_cents => k_is)
    (case pg_Prices_cents => k_is)
    (case pt_Prices_cents => k_is)
    (case pr1_Prices_cents => k_is)
    (case l_Prices_cents => k_is)
    (case q_Prices_cents => k_is)
    (case k_Prices_cents => k_is)
    (case a_Prices___call__ => k_is)
    (case i_Prices___call__ => k_is)
    (case l_Prices___call__ => k_is)
    (case q_Prices___call__ => k_is)
    (case k_Prices___call__ => k_is)
    (case a_Prices___add__ => k_is)
    (case i_Prices___add__ => k_is)
    (case l_Prices___add__ => k_is)
    (case q_Prices___add__ => k_is)
    (case k_Prices___add__ => k_is)
    (case a_Prices___mul__ => k_is)
    (case i_Prices___mul__ => k_is)
    (case l_Prices___mul__ => k_is)
    (case q_Prices___mul__ => k_is)
    (case k_Prices___mul__ => k_is)
    (case a_Prices___eq__ => k_is)
    (case i_Prices___eq__ => k_is)
    (case l_Prices___eq__ => k_is)
    (case q_Prices___eq__ => k_is)
    (case k_Prices___eq__ => k_is)
    (case a__law_start => k_is)
    (case l__law_start => k_is)
    (case q__law_start => k_is)
    (case k__law_start => k_is)
    (case a__law_drawn => k_is)
    (case l__law_drawn => k_is)
    (case q__law_drawn => k_is)
    (case k__law_drawn => k_is)
    (case a__law_same => k_is)
    (case l__law_same => k_is)
    (case q__law_same => k_is)
    (case k__law_same => k_is)
    (case a__law_outcome => k_is)
    (case l__law_outcome => k_is)
    (case q__law_outcome => k_is)
    (case k__law_outcome => k_is)
    (case a__law_fault => k_is)
    (case l__law_fault => k_is)
    (case q__law_fault => k_is)
    (case k__law_fault => k_is)
    (case a__law_agrees => k_is)
    (case l__law_agrees => k_is)
    (case q__law_agrees => k_is)
    (case k__law_agrees => k_is)
    (case a_law => k_is)
    (case l_law => k_is)
    (case q_law => k_is)
    (case lc_law => k_is)
    (case he_law => rfl)
    (case ch_law => kernel_rfl)
    (case nt_law => kernel_rfl)
    (case ht_law => exact PySem.W.km_tabs_of Y _ (by decide))
    (case k_law => k_is)
    (case fn_Prices => k_is)
