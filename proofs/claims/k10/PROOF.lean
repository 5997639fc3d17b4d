import PyProof.Rows.All
import Wide.All
import OpenK.AllK
import Wide.FinOn
import HandS.ForMost
import KE.GoesMore
import KE.GoesEnum
import KE.KTupSum
import HandS.Evl
import HandS.TupAny
import HandS.Wide
import HandS.Style
import HandS.Property
import HandS.ClsMeth
import HandS.WideBits
import HandS.Steps
import HandS.Walk
import HandS.Strs
import HandS.SetFor
import HandS.IsInst
import KE.KLam
import HandS.Codes
import HandS.TryOnly
import HandS.Lambda
import HandS.Nested
import HandS.EndTab
import HandS.EndOwn
import HandS.ExcInit
import HandS.ExcOwn
import HandS.ExcField
import HandS.ExcIs
import HandS.WordsExc
import HandS.FStr
import KE.KSuper
import KE.KExcSuper
import KE.KExcIs
import HandS.TupMul
import HandS.Small
import HandS.Flow
import HandS.Flt
import HandS.Star
import KE.KOpsOwn
import HandS.RevRange
import HandS.Conv
import KE.GoesComp
import PySem.Challenge.RW_staleloaves_k10_numbers_out_of_range
set_option Elab.async false
set_option linter.all false
set_option maxRecDepth 100000
set_option maxHeartbeats 4000000
namespace Sw
open PySem PySem.Spec PyProof.Rows L2
/-! ### zip of a tuple, a tuple and a list; enumerate of a tuple -/
def Itz3 (K : PySem.W.Frag) (a b c : Addr) : It :=
  ⟨fun i H => ∃ (xs ys zs : List V) (x y z : V), SqT K H a xs ∧ SqT K H b ys ∧ SqL K H c zs ∧ xs[i]? = some x ∧ ys[i]? = some y ∧ zs[i]? = some z,
    fun i H v H' => ∃ T x y z, v = .ref T ∧ H T = none ∧ H' = upd H T (.tup [x, y, z]) ∧ (∀ xs, SqT K H a xs → xs[i]? = some x) ∧ (∀ ys, SqT K H b ys → ys[i]? = some y) ∧ ∀ zs, SqL K H c zs → zs[i]? = some z,
    fun i H => ∃ xs ys zs : List V, SqT K H a xs ∧ SqT K H b ys ∧ SqL K H c zs ∧ xs.length = i ∧ ys.length = i ∧ zs.length = i⟩
theorem turn_zip3 {P : Program} {w : World} {K : PySem.W.Frag} {elts : List Expr} {kk : Nat} {tpos : Pos} {a b c z TI TO i1 i2 i3 : Addr}
    (D : ZipSep3 z TI TO i1 i2 i3 [i1, a] [i2, b] [i3, c]) (h1a : a ≠ i1) (h2b : b ≠ i2) (h3c : c ≠ i3) :
    Turn P w K (.Tuple elts kk tpos) (Itz3 K a b c) [z, TI, TO, i1, i2, i3] z (fun i h => IsZip h z TI TO .none ∧ IsTupOf3 h TI (.ref i1) (.ref i2) (.ref i3) ∧ (∃ x y u, IsTupOf3 h TO x y u) ∧ h.IsTupleIter i1 a i ∧ h.IsTupleIter i2 b i ∧ h.IsListIter i3 c i) where
  mem := by simp
  obj := fun i h st d hd => by
    obtain ⟨hz, hTI, ⟨x, y, u, hTO⟩, ⟨o1, e1, _, d1⟩, ⟨o2, e2, _, d2⟩, ⟨o3, e3, _, d3⟩⟩ := st
    have e' : d = z ∨ d = TI ∨ d = TO ∨ d = i1 ∨ d = i2 ∨ d = i3 := by simpa using hd
    rcases e' with q | q | q | q | q | q
    · rw [q]; exact ⟨_, hz, fun v q => nomatch q⟩
    · rw [q]; exact ⟨_, hTI, fun v q => nomatch q⟩
    · rw [q]; exact ⟨_, hTO, fun v q => nomatch q⟩
    · rw [q]; exact ⟨o1, e1, fun v q => by rw [d1] at q; cases q⟩
    · rw [q]; exact ⟨o2, e2, fun v q => by rw [d2] at q; cases q⟩
    · rw [q]; exact ⟨o3, e3, fun v q => by rw [d3] at q; cases q⟩
  keep := fun i h h' st k => by
    obtain ⟨hz, hTI, ⟨x, y, u, hTO⟩, h1, h2, h3⟩ := st
    exact ⟨k z (by simp) _ hz, k TI (by simp) _ hTI, ⟨x, y, u, k TO (by simp) _ hTO⟩, h1.at fun o q => k i1 (by simp) o q, h2.at fun o q => k i2 (by simp) o q, h3.at fun o q => k i3 (by simp) o q⟩
  item := by
    intro X hP hw hK hc i pins s σ H E I hf st hg
    subst hP hw hK
    obtain ⟨hz, hTI, ⟨x0, y0, u0, hTO⟩, h1, h2, h3⟩ := st
    obtain ⟨xs, ys, zs, x, y, u, hqx, hqy, hqz, hx, hy, hu⟩ := hg
    obtain ⟨its, rv, p, _⟩ := I.tuple hqx
    obtain ⟨its2, rv2, p2, _⟩ := I.tuple hqy
    obtain ⟨its3, rv3, p3, _⟩ := I.list hqz
    obtain ⟨u1, hu1, ru1⟩ := rv.get hx
    obtain ⟨u2, hu2, ru2⟩ := rv2.get hy
    obtain ⟨u3, hu3, ru3⟩ := rv3.get hu
    have hh : X.A.in1.handled = none := I.ok.hd hc
    have D1 := Draws.tuple (prog := X.prog) (w := X.w) (A := X.A.in1) hh i1 a h1a its.toArray
    have D2 := Draws.tuple (prog := X.prog) (w := X.w) (A := X.A.in1) hh i2 b h2b its2.toArray
    have D3 := Draws.list (prog := X.prog) (w := X.w) (A := X.A.in1) hh i3 c h3c its3.toArray
    have hzl : z < s.heap.objs.size := Heap.lt_size hz
    have lt1 : i < its.toArray.size := by simpa using (List.getElem?_eq_some_iff.mp hu1).1
    have lt2 : i < its2.toArray.size := by simpa using (List.getElem?_eq_some_iff.mp hu2).1
    have lt3 : i < its3.toArray.size := by simpa using (List.getElem?_eq_some_iff.mp hu3).1
    refine wpAny_pyNext_zipD3_item D D1 D2 D3 hz hTI hTO ⟨h1, p⟩ ⟨h2, p2⟩ ⟨h3, p3.isList⟩ lt1 lt2 lt3 fun x1 x2 x3 h' tk q1 q2 q3 z' TO' s1' s2' s3' hT hsz hk => ?_
    have e1 : x1 = u1 := by have q : its[i]? = some x1 := by simpa using q1
                            rw [hu1] at q; exact (Option.some.inj q).symm
    have e2 : x2 = u2 := by have q : its2[i]? = some x2 := by simpa using q2
                            rw [hu2] at q; exact (Option.some.inj q).symm
    have e3 : x3 = u3 := by have q : its3[i]? = some x3 := by simpa using q3
                            rw [hu3] at q; exact (Option.some.inj q).symm
    subst e1 e2 e3
    refine ⟨_, rfl, wpAny_letOwnedTupleGo_zip (s := { s with heap := h', toks := tk }) z' fun h'' z'' sb => ?_⟩
    have hT2 : h''.get? s.heap.objs.size = some { cls := .type "tuple", data := .seq #[x1, x2, x3] } := (sb.2 _ (Nat.ne_of_gt hzl)).trans hT
    have new : ObjOk X.prog X.w (upd H s.heap.objs.size (.tup [x, y, u])) h'' s.heap.objs.size (.tup [x, y, u]) :=
      ⟨by show 3 ≤ sizeLine; decide, [x1, x2, x3], .cons ru1 (.cons ru2 (.cons ru3 .nil)), ⟨_, hT2, rfl, _, rfl⟩⟩
    have I1 : Inv X pins σ (upd H s.heap.objs.size (.tup [x, y, u])) { s with heap := h'', toks := tk } :=
      I.turnedNew (t' := tk) (ch := [z, TI, TO, i1, i2, i3]) (fun d o hb q => (sb.2 d (fun q' => hb (by simp [q']))).trans (hk d o (fun q' => hb (by simp [q'])) (fun q' => hb (by simp [q'])) (fun q' => hb (by simp [q'])) (fun q' => hb (by simp [q'])) (fun q' => hb (by simp [q'])) q)) hf (Nat.le_refl _) new
    refine ⟨.ref s.heap.objs.size, _, I1, rfl, ⟨_, x, y, u, rfl, I.hok.fresh (Nat.le_refl _), rfl, fun l hl => by rw [I.tuple_inj hl hqx]; exact hx, fun l hl => by rw [I.tuple_inj hl hqy]; exact hy, fun l hl => by rw [I.list_inj hl hqz]; exact hu⟩, ⟨z'', ?_, ⟨x1, x2, x3, ?_⟩, ?_, ?_, ?_⟩, fun d hdm => ?_⟩
    · exact (sb.2 _ D.TIz).trans (hk _ _ D.TIz D.TITO D.TIi1 D.TIi2 D.TIi3 hTI)
    · exact (sb.2 _ D.TOz).trans TO'
    · exact s1'.1.at fun o q => (sb.2 _ D.zi1.symm).trans q
    · exact s2'.1.at fun o q => (sb.2 _ D.zi2.symm).trans q
    · exact s3'.1.at fun o q => (sb.2 _ D.zi3.symm).trans q
    · have hlt : d < s.heap.objs.size := by
        have e' : d = z ∨ d = TI ∨ d = TO ∨ d = i1 ∨ d = i2 ∨ d = i3 := by simpa using hdm
        rcases e' with q | q | q | q | q | q
        · rw [q]; exact hzl
        · rw [q]; exact Heap.lt_size hTI
        · rw [q]; exact Heap.lt_size hTO
        · rw [q]; obtain ⟨_, e1, _⟩ := h1; exact Heap.lt_size e1
        · rw [q]; obtain ⟨_, e2, _⟩ := h2; exact Heap.lt_size e2
        · rw [q]; obtain ⟨_, e3, _⟩ := h3; exact Heap.lt_size e3
      rw [upd_ne (Nat.ne_of_lt hlt)]
      exact (hf d hdm).1
  done := by
    intro X hP hw hK hc i pins s σ H E I hf st hg
    subst hP hw hK
    obtain ⟨hz, hTI, ⟨x0, y0, u0, hTO⟩, h1, h2, h3⟩ := st
    obtain ⟨xs, ys, zs, hqx, hqy, hqz, l1, l2, l3⟩ := hg
    obtain ⟨its, rv, p, _⟩ := I.tuple hqx
    obtain ⟨its2, rv2, p2, _⟩ := I.tuple hqy
    obtain ⟨its3, rv3, p3, _⟩ := I.list hqz
    have m1 : i = its.toArray.size := by have := rv.length; simp; omega
    have m2 : i = its2.toArray.size := by have := rv2.length; simp; omega
    have m3 : i = its3.toArray.size := by have := rv3.length; simp; omega
    have hh : X.A.in1.handled = none := I.ok.hd hc
    have D1 := Draws.tuple (prog := X.prog) (w := X.w) (A := X.A.in1) hh i1 a h1a its.toArray
    have D2 := Draws.tuple (prog := X.prog) (w := X.w) (A := X.A.in1) hh i2 b h2b its2.toArray
    have D3 := Draws.list (prog := X.prog) (w := X.w) (A := X.A.in1) hh i3 c h3c its3.toArray
    exact wpAny_pyNext_zipD3_end D D1 D2 D3 hz hTI hTO ⟨h1, p⟩ ⟨h2, p2⟩ ⟨h3, p3.isList⟩ (Nat.le_of_eq m1) (Nat.le_of_eq m2) (Nat.le_of_eq m3) (.inl m1) fun h' tk hk => ⟨rfl, I.turnedL (t' := tk) (ch := [z, TI, TO, i1, i2, i3]) (fun d o hb q =>
      hk d o (fun q' => hb (by simp [q'])) (fun q' => hb (by simp [q'])) (fun q' => hb (by simp [q'])) (fun q' => hb (by simp [q'])) (fun q' => hb (by simp [q'])) q) hf⟩
  self := fun A i s Q E st h => wpAny_pyIter_zip st.1 h
def iZip3 (K : PySem.W.Frag) (ta : TA) : TI := fun σ H R => ta σ H fun vs H1 => ∃ a b c xs ys zs, vs = [.ref a, .ref b, .ref c] ∧ SqT K H1 a xs ∧ SqT K H1 b ys ∧ SqL K H1 c zs ∧ R (Itz3 K a b c) H1
theorem pi_zip3 {X : Cx} {e e2 e3 : Expr} {ta : TA} {p pos tpos : Pos} {elts : List Expr} {kk : Nat} (hg : Gl X "zip") (hm : X.mg "zip" = none) (ha : PA X [e, e2, e3] ta)
    (hs : starEach [e, e2, e3] X.env = (false, eval e X.env) :: starEach [e2, e3] X.env := by rfl) (hpl : (backTo pos (starEach [e2, e3] X.env)).any (·.1) = false := by rfl) :
    PI X (.Tuple elts kk tpos) (.Call (.Name "zip" p) [e, e2, e3] [] pos) (iZip3 X.K ta) := by
  refine ⟨fun pins s σ H R I h => ?_⟩
  refine Call_ (ld_blt I hg hm PyProof.Rows.boot_zip (PyProof.Rows.callWith_type1 (thn (ha.run pos pins s σ H _ I h) fun us s1 ⟨vs, H1, I1, r1, q1⟩ => ?_) hs hpl))
  obtain ⟨a, b, c, xs, ys, zs, ex, hqx, hqy, hqz, q⟩ := q1
  subst ex
  cases r1 with
  | cons r rr =>
    cases rr with
    | cons r' rr =>
      cases rr with
      | cons r'' rr =>
        cases rr
        cases r
        cases r'
        cases r''
        obtain ⟨its, rv, p1, _⟩ := I1.tuple hqx
        obtain ⟨its2, rv2, p2, _⟩ := I1.tuple hqy
        obtain ⟨its3, rv3, p3, _⟩ := I1.list hqz
        have la : a < s1.heap.objs.size := p1.lt
        have lb : b < s1.heap.objs.size := p2.lt
        have lc : c < s1.heap.objs.size := p3.lt
        refine zip_begins3 (begins_tuple a its.toArray) (begins_tuple b its2.toArray) (begins_list c its3.toArray) p1 p2 p3.isList fun h' hz hTI hTO h1 h2 h3 hsz hk => wpAny_pyIter_zip hz ?_
        have I2 : Inv X pins σ H1 { s1 with heap := h' } := I1.kept (t' := s1.toks) hk
        have sep : ZipSep3 (s1.heap.objs.size + 5) (s1.heap.objs.size + 3) (s1.heap.objs.size + 4) s1.heap.objs.size (s1.heap.objs.size + 1) (s1.heap.objs.size + 2) [s1.heap.objs.size, a] [s1.heap.objs.size + 1, b] [s1.heap.objs.size + 2, c] :=
          zip_sep3 (N := s1.heap.objs.size) (fp1 := [a]) (fp2 := [b]) (fp3 := [c]) (fun d hd => by rw [List.mem_singleton.mp hd]; exact la) (fun d hd => by rw [List.mem_singleton.mp hd]; exact lb) (fun d hd => by rw [List.mem_singleton.mp hd]; exact lc)
        refine ⟨s1.heap.objs.size + 5, [s1.heap.objs.size + 5, s1.heap.objs.size + 3, s1.heap.objs.size + 4, s1.heap.objs.size, s1.heap.objs.size + 1, s1.heap.objs.size + 2], _, _, H1, rfl, I2,
          turn_zip3 sep (Nat.ne_of_lt la) (Nat.ne_of_lt (Nat.lt_succ_of_lt lb)) (Nat.ne_of_lt (Nat.lt_succ_of_lt (Nat.lt_succ_of_lt lc))), ⟨hz, hTI, ⟨_, _, _, hTO⟩, ⟨_, h1, rfl, rfl⟩, ⟨_, h2, rfl, rfl⟩, ⟨_, h3, rfl, rfl⟩⟩, fun d hdm => ?_, q⟩
        have e' : d = s1.heap.objs.size + 5 ∨ d = s1.heap.objs.size + 3 ∨ d = s1.heap.objs.size + 4 ∨ d = s1.heap.objs.size ∨ d = s1.heap.objs.size + 1 ∨ d = s1.heap.objs.size + 2 := by simpa using hdm
        have hle : s1.heap.objs.size ≤ d := by
          rcases e' with z | z | z | z | z | z
          · rw [z]; exact Nat.le_add_right _ _
          · rw [z]; exact Nat.le_add_right _ _
          · rw [z]; exact Nat.le_add_right _ _
          · rw [z]; exact Nat.le_refl _
          · rw [z]; exact Nat.le_add_right _ _
          · rw [z]; exact Nat.le_add_right _ _
        exact I1.fpOk hle (I1.hok.fresh hle)
/-- the tuple at a, each item in a new pair with its number -/
def IteT (K : PySem.W.Frag) (a : Addr) : It :=
  ⟨fun i H => ∃ (xs : List V) (x : V), SqT K H a xs ∧ xs[i]? = some x, fun i H v H' => ∃ T x, v = .ref T ∧ H T = none ∧ H' = upd H T (.tup [.int (i : Nat), x]) ∧ ∀ xs, SqT K H a xs → xs[i]? = some x, fun i H => ∃ xs : List V, SqT K H a xs ∧ xs.length = i⟩
theorem turn_enumT {P : Program} {w : World} {K : PySem.W.Frag} {elts : List Expr} {kk : Nat} {tpos : Pos} (a e it : Addr) (hai : a ≠ it) (hae : e ≠ a) :
    Turn P w K (.Tuple elts kk tpos) (IteT K a) [e, it] e (fun i h => (∃ old, IsEnum h e it ((i : Nat) : Int) old) ∧ h.IsTupleIter it a i ∧ e ≠ it) where
  mem := by simp
  obj := fun i h st b hb => by
    obtain ⟨⟨old, he⟩, ⟨o, ho, hc, hd⟩, _⟩ := st
    have e' : b = e ∨ b = it := by simpa using hb
    rcases e' with z | z
    · rw [z]; exact ⟨_, he, fun v q => nomatch q⟩
    · rw [z]; exact ⟨o, ho, fun v q => by rw [hd] at q; cases q⟩
  keep := fun i h h' st k => let ⟨⟨old, he⟩, hi, hne⟩ := st; ⟨⟨old, k e (by simp) _ he⟩, hi.at fun o q => k it (by simp) o q, hne⟩
  item := by
    intro X hP hw hK hc i pins s σ H E I hf st hg
    subst hP hw hK
    obtain ⟨⟨old, he⟩, hit, hne⟩ := st
    obtain ⟨xs, x, hq, hx⟩ := hg
    obtain ⟨its, rv, p, hz⟩ := I.tuple hq
    obtain ⟨u, hu, ru⟩ := rv.get hx
    have hel : e < s.heap.objs.size := Heap.lt_size he
    have hil : it < s.heap.objs.size := by obtain ⟨_, q, _⟩ := hit; exact Heap.lt_size q
    have hh : X.A.in1.handled = none := I.ok.hd hc
    have D1 := Draws.tuple (prog := X.prog) (w := X.w) (A := X.A.in1) hh it a hai its.toArray
    have lt1 : i < its.toArray.size := by simpa using (List.getElem?_eq_some_iff.mp hu).1
    have hef : e ∉ [it, a] := by simp [hne, hae]
    refine wpAny_pyNext_enum_itemD D1 he ⟨hit, p⟩ lt1 hne hef fun x1 h' tk q1 ho st' hT hsz hk => ?_
    have e1 : x1 = u := by have q : its[i]? = some x1 := by simpa using q1
                           rw [hu] at q; exact (Option.some.inj q).symm
    subst e1
    refine ⟨_, rfl, wpAny_letOwnedTupleGo_enum (s := { s with heap := h', toks := tk + 1 }) ho fun h'' he' sb => ?_⟩
    have hT2 : h''.get? s.heap.objs.size = some { cls := .type "tuple", data := .seq #[.int i tk, x1] } := (sb.2 _ (Nat.ne_of_gt hel)).trans hT
    have new : ObjOk X.prog X.w (upd H s.heap.objs.size (.tup [.int (i : Nat), x])) h'' s.heap.objs.size (.tup [.int (i : Nat), x]) :=
      ⟨by show 2 ≤ sizeLine; decide, [.int i tk, x1], .cons ⟨_, rfl⟩ (.cons ru .nil), ⟨_, hT2, rfl, _, rfl⟩⟩
    have I1 : Inv X pins σ (upd H s.heap.objs.size (.tup [.int (i : Nat), x])) { s with heap := h'', toks := tk + 1 } :=
      I.turnedNew (ch := [e, it]) (fun b ob hb q => (sb.2 b (fun z => hb (by simp [z]))).trans (hk b ob (fun z => hb (by simp [z])) (fun z => hb (by simp [z])) q)) hf (Nat.le_refl _) new
    refine ⟨.ref s.heap.objs.size, _, I1, rfl, ⟨_, x, rfl, I.hok.fresh (Nat.le_refl _), rfl, fun ys hy => by rw [I.tuple_inj hy hq]; exact hx⟩, ⟨⟨x1, ?_⟩, st'.1.at fun o q => (sb.2 it (Ne.symm hne)).trans q, hne⟩, fun b hb => ?_⟩
    · have e1 : ((i + 1 : Nat) : Int) = (i : Int) + 1 := by omega
      rw [e1]; exact he'
    · have hb' : b < s.heap.objs.size := by
        have e' : b = e ∨ b = it := by simpa using hb
        rcases e' with z | z
        · rw [z]; exact hel
        · rw [z]; exact hil
      rw [upd_ne (Nat.ne_of_lt hb')]
      exact (hf b hb).1
  done := by
    intro X hP hw hK hc i pins s σ H E I hf st hg
    subst hP hw hK
    obtain ⟨⟨old, he⟩, hit, hne⟩ := st
    obtain ⟨xs, hq, hx⟩ := hg
    obtain ⟨its, rv, p, hz⟩ := I.tuple hq
    obtain ⟨f0, f1, f2, f3, f4, f5⟩ := hf it (by simp)
    have hh : X.A.in1.handled = none := I.ok.hd hc
    have D1 := Draws.tuple (prog := X.prog) (w := X.w) (A := X.A.in1) hh it a hai its.toArray
    have m1 : its.toArray.size = i := by have := rv.length; simp; omega
    refine wpAny_pyNext_enum_endD D1 he ⟨by rw [m1]; exact hit, p⟩ fun h' eb => ⟨rfl, I.turned (t' := s.toks) (fun b o hb q => eb b o hb q) f0 f1 f3 f4 f5⟩
  self := fun A i s Q E st h => let ⟨⟨_, he⟩, _⟩ := st; wpAny_pyIter_enum he h

theorem meets_enumerate_newB1 {v : Value} {o : Obj} {H : Heap → Prop} (B : Begins v o H) :
    Meets (Builtin.«enumerate.__new__» ⟨[.type "enumerate", v], []⟩) (fun _ R s => H s.heap ∧
      R (.ok (.ret (.ref (s.heap.push o).objs.size))) { s with heap := (s.heap.push o).push { cls := .type "enumerate", data := .fields #[.none, .bool false, .ref s.heap.objs.size, rawInt 0, .none, .none] } }) :=
  .of_wp fun prog w A R s h => by
    obtain ⟨hp, g, d, tk, os⟩ := s; obtain ⟨h1, h⟩ := h
    have hsub := sub_enumerate
    have q1 : ∀ {A' : Around} {E : Value → Shared → Prop} {Q : Value → Shared → Prop}, Q (.ref hp.objs.size) ⟨hp.push o, g, d, tk, os⟩ → wpAny (model prog w) A' (pyIter v) Q E ⟨hp, g, d, tk, os⟩ :=
      fun q => B.iter prog w _ _ ⟨hp, g, d, tk, os⟩ _ h1 q
    wp_walk using q1
    refine wpAny_stack_any fun st => wpAny_pure ?_
    split
    · rename_i c _ _ _ _ _
      cases (c == Value.type "enumerate")
      · wp_walk using q1
        exact ⟨_, rfl, h⟩
      · wp_walk using q1
        exact ⟨_, rfl, h⟩
    · wp_walk using q1
      exact ⟨_, rfl, h⟩
theorem enum_begins1 {prog : Program} {w : World} {A : Around} {E : Value → Shared → Prop} {s : Shared} {v : Value} {o : Obj} {H : Heap → Prop} {Q : Value → Shared → Prop} (B : Begins v o H) (h1 : H s.heap)
    (h : ∀ h', IsEnum h' (s.heap.objs.size + 1) s.heap.objs.size 0 .none → h'.get? s.heap.objs.size = some o → h'.objs.size = s.heap.objs.size + 2 →
      (∀ b o, s.heap.get? b = some o → h'.get? b = some o) → Q (.ref (s.heap.objs.size + 1)) { s with heap := h' }) :
    wpAny (model prog w) A (call (.type "enumerate") [v]) Q E s := by
  refine callType_new F.called_enumerate (by decide) (F.typeCall_enumerate_1 _) (F.newCall_enumerate_1 _) (fun obj => F.args_object_init_2 obj _) F.entry_enumerate_new
    (meets_enumerate_newB1 B) ⟨h1, ?_⟩
  have hz : (s.heap.push o).objs.size = s.heap.objs.size + 1 := Heap.size_push ..
  show _ ∧ _
  rw [hz]
  have he : IsEnum ((s.heap.push o).push { cls := .type "enumerate", data := .fields #[.none, .bool false, .ref s.heap.objs.size, rawInt 0, .none, .none] }) (s.heap.objs.size + 1) s.heap.objs.size 0 .none := by
    have := Heap.get?_push_size (s.heap.push o) (o := { cls := .type "enumerate", data := .fields #[.none, .bool false, .ref s.heap.objs.size, rawInt 0, .none, .none] }) rfl
    rw [hz] at this; exact this
  refine ⟨⟨_, he, rfl⟩, h _ he (Heap.get?_push_of_some _ (Heap.get?_push_size _ B.free)) (by rw [Heap.size_push, hz]) fun b o x => Heap.get?_push_of_some _ (Heap.get?_push_of_some _ x)⟩
def iEnumT (K : PySem.W.Frag) (ta : TA) : TI := fun σ H R => ta σ H fun vs H1 => ∃ a xs, vs = [.ref a] ∧ SqT K H1 a xs ∧ R (IteT K a) H1
theorem pi_enumT {X : Cx} {e : Expr} {ta : TA} {p pos tpos : Pos} {elts : List Expr} {kk : Nat} (hg : Gl X "enumerate") (hm : X.mg "enumerate" = none) (ha : PA X [e] ta) (hs : starEach [e] X.env = [(false, eval e X.env)] := by rfl) :
    PI X (.Tuple elts kk tpos) (.Call (.Name "enumerate" p) [e] [] pos) (iEnumT X.K ta) := by
  refine ⟨fun pins s σ H R I h => ?_⟩
  refine Call_ (ld_blt I hg hm boot_enumerate (PyProof.Rows.callWith_type1 (thn (ha.run pos pins s σ H _ I h) fun us s1 ⟨vs, H1, I1, r1, q1⟩ => ?_) hs rfl))
  obtain ⟨a, xs, ex, hq, q⟩ := q1
  subst ex
  cases r1 with
  | cons r rr =>
    cases rr
    cases r
    obtain ⟨its, rv, p', hz⟩ := I1.tuple hq
    have la : a < s1.heap.objs.size := p'.lt
    refine enum_begins1 (begins_tuple a its.toArray) p' fun h' he hit hsz hk => wpAny_pyIter_enum he ?_
    have I2 : Inv X pins σ H1 { s1 with heap := h' } := I1.kept (t' := s1.toks) hk
    refine ⟨s1.heap.objs.size + 1, [s1.heap.objs.size + 1, s1.heap.objs.size], _, _, H1, rfl, I2, turn_enumT a (s1.heap.objs.size + 1) s1.heap.objs.size (Nat.ne_of_lt la) (Nat.ne_of_gt (Nat.lt_succ_of_lt la)), ⟨⟨.none, he⟩, ⟨_, hit, rfl, rfl⟩, Nat.succ_ne_self _⟩, fun b hb => ?_, q⟩
    have e' : b = s1.heap.objs.size + 1 ∨ b = s1.heap.objs.size := by simpa using hb
    have hle : s1.heap.objs.size ≤ b := by
      rcases e' with z | z
      · rw [z]; exact Nat.le_add_right _ _
      · rw [z]; exact Nat.le_refl _
    exact I1.fpOk hle (I1.hok.fresh hle)
end Sw
namespace Sw
open PySem PySem.Spec PyProof.Rows L2 Evl
/-! ### more rules: sum of a tuple -/
section
variable {X : Cx}
def rSumT (K : PySem.W.Frag) : List V → Hp → VK → Prop := fun vs H Q => ∃ (a : Addr) (ns : List Int), vs = [V.ref a] ∧ SqT K H a (ns.map V.int) ∧ Q (.int ns.sum) H
theorem cr_sumT (hc : X.calm = true) : CallR X (.builtin "sum") (rSumT X.K) := by
  intro pins s σ H vs us Q I r h
  obtain ⟨a, ns, rfl, hs, q⟩ := h
  obtain ⟨its, rv, hl, _⟩ := I.tuple hs
  rw [Vals.ref1 r]
  obtain ⟨xs, e⟩ := rv.ints.allInts.items
  have hn : numsOf (intItems xs).toList = ns := by rw [← e]; exact rv.ints.numsOf
  rw [nums_intItems] at hn
  have hl' : s.heap.IsTuple a (intItems xs) := by rw [← e]; exact hl
  refine PySem.W.ktm_sumG (I.ok.hd hc) hl' fun h' tk t' hk => ⟨.int ns.sum, H, I.kept hk, ⟨t', ?_⟩, q⟩
  rw [preSum_eq, List.take_of_length_le (by simp), hn]
theorem ps_no {st : Stmt} : PS X st (fun _ _ _ => False) := ⟨fun _ _ _ _ _ _ h => h.elim⟩
end
/-! ### what they evaluate to -/
section
variable {K : PySem.W.Frag} {σ : L2.St} {H H' : Hp} {ta tb te tx : TE} {x y z v : V}
theorem ev_sumN {ns : List Int} (h : EvL ta σ H (ns.map V.int)) : Ev (tCB (rSum K) (tCons ta tNil)) σ H (.int ns.sum) := fun H1 e Q q =>
  h H1 e _ fun p H2 _ e2 h2 => ⟨p, ns, rfl, sq_of h2, q H2 e2⟩
theorem ev_sumL {a : Addr} {ns : List Int} (h : Ev ta σ H (.ref a)) (hx : SqL K H a (ns.map V.int)) : Ev (tCB (rSum K) (tCons ta tNil)) σ H (.int ns.sum) := fun H1 e Q q =>
  h H1 e _ fun H2 e2 => ⟨a, ns, rfl, ex_l (e.trans e2) hx, q H2 e2⟩
theorem ev_sumT {a : Addr} {ns : List Int} (h : Ev ta σ H (.ref a)) (hx : SqT K H a (ns.map V.int)) : Ev (tCB (rSumT K) (tCons ta tNil)) σ H (.int ns.sum) := fun H1 e Q q =>
  h H1 e _ fun H2 e2 => ⟨a, ns, rfl, ex_t (e.trans e2) hx, q H2 e2⟩
theorem ev_lenT {a : Addr} {xs : List V} (h : Ev ta σ H (.ref a)) (hx : SqT K H a xs) : Ev (tCB (rLenS K) (tCons ta tNil)) σ H (.int (xs.length : Int)) := fun H1 e Q q =>
  h H1 e _ fun H2 e2 => ⟨a, xs, rfl, .inr (ex_t (e.trans e2) hx), q H2 e2⟩
theorem given_all (n : Nat) (v : Nat → V) : given n (fun _ => true) v = (List.range n).map v := by
  unfold given
  rw [List.filter_eq_self.mpr (fun _ _ => rfl)]
theorem et_yes : EvT tYes σ H true := fun H1 _ _ q => q H1 (Ex.refl H1)
/-- the comprehension over range(n), no test -/
theorem el_lcR {ta : TA} {j : Nat} {vs : List Nat} {n : Int} (v : Nat → V) (h : EvA ta σ H [.int n]) (hn : 0 ≤ n ∧ n ≤ 40000) (hw : ∀ x, wipe ((wipe σ vs).set j (some x)) vs = wipe σ vs)
    (he : ∀ (i : Nat) H1, Ex H H1 → (i : Int) < n → Ev te ((wipe σ vs).set j (some (.int (i : Int)))) H1 (v i)) :
    EvL (tLc (iRng1 ta) (gName j) tYes te vs) σ H ((List.range n.toNat).map v) := by
  rw [← given_all]
  exact el_lcR1 (fun _ => true) v h hn hw (fun _ _ _ _ => et_yes) (fun i H1 e hi _ => he i H1 e hi)
theorem atI_at {α : Type} {xs : List α} {i : Int} {d : α} (h0 : 0 ≤ i) (h1 : i < xs.length) : atI xs i = some (xs.getD i.toNat d) := by
  obtain ⟨j, rfl⟩ : ∃ j : Nat, i = (j : Int) := ⟨i.toNat, by omega⟩
  have hj : j < xs.length := by omega
  rw [atI_nat (v := xs[j]) (by simp [hj]), Int.toNat_natCast]
  simp [List.getD, hj]
end
end Sw
namespace Sw
open PySem PySem.Spec PyProof.Rows L2 Evl
/-! ### instances, methods, calls -/
section
variable {K : PySem.W.Frag} {σ : L2.St} {H H' : Hp} {ta tb te tx : TE} {x y z v : V} {a C dx : Addr} {fs : List (Str × V)} {f m : Str}
/-- the instance at a has the field -/
def Fl (H : Hp) (a C : Addr) (f : Str) (v : V) : Prop := ∃ dx fs, H a = some (.ins C dx fs) ∧ fs.lookup f = some v
/-- the instance at a has no such field -/
def NoF (H : Hp) (a C : Addr) (f : Str) : Prop := ∃ dx fs, H a = some (.ins C dx fs) ∧ fs.lookup f = none
theorem Fl.mono (e : Ex H H') (h : Fl H a C f v) : Fl H' a C f v := let ⟨dx, fs, h1, h2⟩ := h; ⟨dx, fs, e _ _ h1, h2⟩
theorem NoF.mono (e : Ex H H') (h : NoF H a C f) : NoF H' a C f := let ⟨dx, fs, h1, h2⟩ := h; ⟨dx, fs, e _ _ h1, h2⟩
theorem ev_fld (h : Ev ta σ H (.ref a)) (hf : Fl H a C f v) (c : Cls K C) (n : NoAttr K C f) : Ev (tFld K ta f) σ H v := fun H1 e Q q =>
  h H1 e _ fun H2 e2 => let ⟨dx, fs, h1, h2⟩ := hf; ⟨a, C, dx, fs, v, rfl, e2 _ _ (e _ _ h1), c, n, h2, q H2 e2⟩
/-- what a method's promise gives -/
theorem ev_meth {sp : Sp} {dvs vs : List V} {E : XK} {t : TA} (h : Ev ta σ H (.ref a)) (nf : NoF H a C m) (hv : EvA t σ H vs) (hs : SpV sp (.ref a :: (vs ++ dvs)) H z) : Ev (tMeth C m sp dvs E ta t) σ H z := fun H1 e Q q =>
  h H1 e _ fun H2 e2 => let ⟨dx, fs, h1, h2⟩ := nf; ⟨a, dx, fs, rfl, e2 _ _ (e _ _ h1), h2, hv H2 (e.trans e2) _ fun H3 e3 => hs H3 ((e.trans e2).trans e3) Q (fun H4 e4 => q H4 ((e2.trans e3).trans e4)) E⟩
theorem el_meth {sp : Sp} {dvs vs xs : List V} {E : XK} {t : TA} (h : Ev ta σ H (.ref a)) (nf : NoF H a C m) (hv : EvA t σ H vs) (hs : SpL sp (.ref a :: (vs ++ dvs)) H xs) : EvL (tMeth C m sp dvs E ta t) σ H xs := fun H1 e Q q =>
  h H1 e _ fun H2 e2 => let ⟨dx, fs, h1, h2⟩ := nf; ⟨a, dx, fs, rfl, e2 _ _ (e _ _ h1), h2, hv H2 (e.trans e2) _ fun H3 e3 => hs H3 ((e.trans e2).trans e3) Q (fun p H4 hp e4 h4 => q p H4 (fresh_back (e2.trans e3) hp) ((e2.trans e3).trans e4) h4) E⟩
/-- a new tuple -/
def SpU (sp : Sp) (vs : List V) (H : Hp) (xs : List V) : Prop := ∀ H1, Ex H H1 → ∀ Q : VK, (∀ p H2, H1 p = none → Ex H1 H2 → H2 p = some (.tup xs) → Q (.ref p) H2) → ∀ E : XK, sp vs H1 Q E
theorem eu_meth {sp : Sp} {dvs vs xs : List V} {E : XK} {t : TA} (h : Ev ta σ H (.ref a)) (nf : NoF H a C m) (hv : EvA t σ H vs) (hs : SpU sp (.ref a :: (vs ++ dvs)) H xs) : EvU (tMeth C m sp dvs E ta t) σ H xs := fun H1 e Q q =>
  h H1 e _ fun H2 e2 => let ⟨dx, fs, h1, h2⟩ := nf; ⟨a, dx, fs, rfl, e2 _ _ (e _ _ h1), h2, hv H2 (e.trans e2) _ fun H3 e3 => hs H3 ((e.trans e2).trans e3) Q (fun p H4 hp e4 h4 => q p H4 (fresh_back (e2.trans e3) hp) ((e2.trans e3).trans e4) h4) E⟩
theorem eu_call {sp : Sp} {dvs vs xs : List V} {E : XK} {ta : TA} (h : EvA ta σ H vs) (hs : SpU sp (vs ++ dvs) H xs) : EvU (tCall sp dvs E ta) σ H xs := fun H1 e Q q =>
  h H1 e _ fun H2 e2 => hs H2 (e.trans e2) Q (fun p H3 hp e3 h3 => q p H3 (fresh_back e2 hp) (e2.trans e3) h3) E
/-- an item of what a call hands back -/
theorem ev_ixNL {xs : List V} {i : Int} (h : EvL ta σ H xs) (hb : Ev tb σ H (.int i)) (ha : atI xs i = some v) : Ev (tOp (rIxL K) ta tb) σ H v := ev_opL1 h (fun H1 e => hb.mono e) fun p H1 hp _ => rv_ixL (K := K) (sq_of hp) ha
theorem ev_ixNU {xs : List V} {i : Int} (h : EvU ta σ H xs) (hb : Ev tb σ H (.int i)) (ha : atI xs i = some v) : Ev (tOp (rIxT K) ta tb) σ H v := fun H1 e Q q =>
  h H1 e _ fun p H2 _ e2 hp => hb H2 (e.trans e2) _ fun H3 e3 => rv_ixT (K := K) (st_of (e3 p _ hp)) ha H3 (Ex.refl H3) Q fun H4 e4 => q H4 ((e2.trans e3).trans e4)
theorem ev_ixL {p : Addr} {xs : List V} {i : Int} (h : Ev ta σ H (.ref p)) (hx : SqL K H p xs) (hb : Ev tb σ H (.int i)) (ha : atI xs i = some v) : Ev (tOp (rIxL K) ta tb) σ H v := ev_op h hb (rv_ixL hx ha)
theorem ev_ixT {p : Addr} {xs : List V} {i : Int} (h : Ev ta σ H (.ref p)) (hx : SqT K H p xs) (hb : Ev tb σ H (.int i)) (ha : atI xs i = some v) : Ev (tOp (rIxT K) ta tb) σ H v := ev_op h hb (rv_ixT hx ha)
/-- the smaller, the greater of two -/
def rMn : List V → Hp → VK → Prop := fun xs H Q => ∃ i j, xs = [.int i, .int j] ∧ Q (.int (if j < i then j else i)) H
theorem ev_min2 {i j : Int} (ha : Ev ta σ H (.int i)) (hb : Ev tb σ H (.int j)) : Ev (tCB rMn (tCons ta (tCons tb tNil))) σ H (.int (min i j)) := fun H1 e Q q =>
  ha H1 e _ fun H2 e2 => hb H2 (e.trans e2) _ fun H3 e3 => ⟨i, j, rfl, by
    have z : (if j < i then j else i) = min i j := by omega
    rw [z]; exact q H3 (e2.trans e3)⟩
theorem ev_maxi {i j : Int} (ha : Ev ta σ H (.int i)) (hb : Ev tb σ H (.int j)) : Ev (tCB rMax2 (tCons ta (tCons tb tNil))) σ H (.int (max i j)) := by
  have z : (if j > i then j else i) = max i j := by omega
  rw [← z]; exact ev_max2 ha hb
/-- divmod: a new pair -/
def rDm : List V → Hp → VK → Prop := fun xs H Q => ∃ i j, xs = [.int i, .int j] ∧ CDiv i j ∧ ∀ p, H p = none → Q (.ref p) (upd H p (.tup [.int (i / j), .int (i % j)]))
theorem eu_dm {i j : Int} (ha : Ev ta σ H (.int i)) (hb : Ev tb σ H (.int j)) (hc : CDiv i j) : EvU (tCB rDm (tCons ta (tCons tb tNil))) σ H [.int (i / j), .int (i % j)] := fun H1 e Q q =>
  ha H1 e _ fun H2 e2 => hb H2 (e.trans e2) _ fun H3 e3 => ⟨i, j, rfl, hc, fun p hp => q p _ (fresh_back (e2.trans e3) hp) ((e2.trans e3).trans (Ex.new hp)) upd_same⟩
theorem eu_tup {t : TA} {xs : List V} (h : EvA t σ H xs) (hz : xs.length ≤ 100000) : EvU (tTup t) σ H xs := fun H1 e Q q =>
  h H1 e _ fun H2 e2 => ⟨sz_of hz, fun p hp => q p _ (fresh_back e2 hp) (e2.trans (Ex.new hp)) upd_same⟩
theorem el_lst {t : TA} {xs : List V} (h : EvA t σ H xs) (hz : xs.length ≤ 100000) : EvL (tLst t) σ H xs := fun H1 e Q q =>
  h H1 e _ fun H2 e2 => ⟨sz_of hz, fun p hp => q p _ (fresh_back e2 hp) (e2.trans (Ex.new hp)) upd_same⟩
theorem Ev.int_eq {i j : Int} (h : Ev te σ H (.int i)) (e : i = j) : Ev te σ H (.int j) := e ▸ h
/-- a, b = a new pair -/
theorem s_pair {i j : Nat} {D : Ends} {x y : V} (h : EvU te σ H [x, y]) (k : ∀ H1, Ex H H1 → D.nx ((σ.set i (some x)).set j (some y)) H1) : tAsg te (gTup K 2 (gCons (gName i) (gCons (gName j) gNil))) D σ H :=
  h H (Ex.refl H) _ fun p H1 _ e hp => ⟨p, [x, y], rfl, st_of hp, rfl, x, [y], rfl, y, [], rfl, rfl, k H1 e⟩
theorem q_pair {i j : Nat} {D : Ends} {x y : V} {tz : TS} (h : EvU te σ H [x, y]) (k : ∀ H1, Ex H H1 → tz D ((σ.set i (some x)).set j (some y)) H1) : tSeq (tAsg te (gTup K 2 (gCons (gName i) (gCons (gName j) gNil)))) tz D σ H :=
  s_pair (D := { D with nx := tz D }) h k
end
/-! ### the rules with the written part named -/
section
variable {X : Cx}
theorem pe_fldK (K : PySem.W.Frag) {e : Expr} {f : Str} {pos : Pos} {ta : TE} (hK : X.K = K) (he : PE X e ta) (hb : attributeBase e f X.env (eval e X.env) = eval e X.env) : PE X (.Attribute e f pos) (tFld K ta f) := by
  subst hK; exact pe_fld he hb
theorem pi_listK (K : PySem.W.Frag) {tg l : Expr} {tl : TE} (hK : X.K = K) (hl : PE X l tl) : PI X tg l (iList K tl) := by
  subst hK; exact pi_list hl
theorem pi_tupK (K : PySem.W.Frag) {tg l : Expr} {tl : TE} (hK : X.K = K) (hl : PE X l tl) : PI X tg l (iTup K tl) := by
  subst hK; exact pi_tup hl
theorem pi_enumTK (K : PySem.W.Frag) {e : Expr} {ta : TA} {p pos tpos : Pos} {elts : List Expr} {kk : Nat} (hK : X.K = K) (hg : Gl X "enumerate") (hm : X.mg "enumerate" = none) (ha : PA X [e] ta) (hs : starEach [e] X.env = [(false, eval e X.env)] := by rfl) :
    PI X (.Tuple elts kk tpos) (.Call (.Name "enumerate" p) [e] [] pos) (iEnumT K ta) := by
  subst hK; exact pi_enumT hg hm ha hs
theorem pg_tupK (K : PySem.W.Frag) {es : List Expr} {k : Nat} {t : TGs} {n : Nat} {pos : Pos} (hK : X.K = K) (hc : X.calm = true) (h : PGs X es t)
    (hn : (assignEach es X.env).length = n := by rfl) (hst : (assignEach es X.env).findIdx? (·.1) = none := by rfl) : PG X (.Tuple es k pos) (gTup K n t) := by
  subst hK; exact pg_tup hc h hn hst
end
/-! ### the promises' shapes -/
def RetU (xs : List V) (H : Hp) (Q : VK) : Prop := ∀ p H2, H p = none → Ex H H2 → H2 p = some (.tup xs) → Q (.ref p) H2
end Sw
namespace Sw
open PySem PySem.Spec PyProof.Rows L2 Evl
section
variable {K : PySem.W.Frag} {σ : L2.St} {H H' : Hp} {ta tb te tx : TE} {x y z v : V} {a C dx : Addr} {fs : List (Str × V)} {f m : Str} {D : Ends} {tz : TS}
/-- o.f = e -/
theorem q_fld (h : Ev te σ H v) (ho : ∀ H1, Ex H H1 → Ev ta σ H1 (.ref a)) (hx : H a = some (.ins C dx fs)) (c : Cls K C) (n : NoAttr K C f) (hl : fs.length < 1000) (k : ∀ H1, Ex H H1 → tz D σ (upd H1 a (.ins C dx (putF f v fs)))) : tSeq (sFld K ta te f) tz D σ H :=
  h H (Ex.refl H) _ fun H1 e1 => ho H1 e1 H1 (Ex.refl H1) _ fun H2 e2 => ⟨a, C, dx, fs, rfl, e2 _ _ (e1 _ _ hx), c, n, hl, k H2 (e1.trans e2)⟩
theorem s_fld (h : Ev te σ H v) (ho : ∀ H1, Ex H H1 → Ev ta σ H1 (.ref a)) (hx : H a = some (.ins C dx fs)) (c : Cls K C) (n : NoAttr K C f) (hl : fs.length < 1000) (k : ∀ H1, Ex H H1 → D.nx σ (upd H1 a (.ins C dx (putF f v fs)))) : sFld K ta te f D σ H :=
  h H (Ex.refl H) _ fun H1 e1 => ho H1 e1 H1 (Ex.refl H1) _ fun H2 e2 => ⟨a, C, dx, fs, rfl, e2 _ _ (e1 _ _ hx), c, n, hl, k H2 (e1.trans e2)⟩
theorem q_fldL {xs : List V} (h : EvL te σ H xs) (ho : ∀ H1, Ex H H1 → Ev ta σ H1 (.ref a)) (hx : H a = some (.ins C dx fs)) (c : Cls K C) (n : NoAttr K C f) (hl : fs.length < 1000) (k : ∀ p H1, H p = none → Ex H H1 → H1 p = some (.lst xs) → tz D σ (upd H1 a (.ins C dx (putF f (.ref p) fs)))) : tSeq (sFld K ta te f) tz D σ H :=
  h H (Ex.refl H) _ fun p H1 hp e1 h1 => ho H1 e1 H1 (Ex.refl H1) _ fun H2 e2 => ⟨a, C, dx, fs, rfl, e2 _ _ (e1 _ _ hx), c, n, hl, k p H2 hp (e1.trans e2) (e2 _ _ h1)⟩
theorem s_fldL {xs : List V} (h : EvL te σ H xs) (ho : ∀ H1, Ex H H1 → Ev ta σ H1 (.ref a)) (hx : H a = some (.ins C dx fs)) (c : Cls K C) (n : NoAttr K C f) (hl : fs.length < 1000) (k : ∀ p H1, H p = none → Ex H H1 → H1 p = some (.lst xs) → D.nx σ (upd H1 a (.ins C dx (putF f (.ref p) fs)))) : sFld K ta te f D σ H :=
  h H (Ex.refl H) _ fun p H1 hp e1 h1 => ho H1 e1 H1 (Ex.refl H1) _ fun H2 e2 => ⟨a, C, dx, fs, rfl, e2 _ _ (e1 _ _ hx), c, n, hl, k p H2 hp (e1.trans e2) (e2 _ _ h1)⟩
theorem s_fldU {xs : List V} (h : EvU te σ H xs) (ho : ∀ H1, Ex H H1 → Ev ta σ H1 (.ref a)) (hx : H a = some (.ins C dx fs)) (c : Cls K C) (n : NoAttr K C f) (hl : fs.length < 1000) (k : ∀ p H1, H p = none → Ex H H1 → H1 p = some (.tup xs) → D.nx σ (upd H1 a (.ins C dx (putF f (.ref p) fs)))) : sFld K ta te f D σ H :=
  h H (Ex.refl H) _ fun p H1 hp e1 h1 => ho H1 e1 H1 (Ex.refl H1) _ fun H2 e2 => ⟨a, C, dx, fs, rfl, e2 _ _ (e1 _ _ hx), c, n, hl, k p H2 hp (e1.trans e2) (e2 _ _ h1)⟩
/-- the heap, the one object at x forgotten -/
def wo (H : Hp) (x : Addr) : Hp := fun b => if b = x then none else H b
theorem wo_self {H : Hp} {x : Addr} : wo H x x = none := by unfold wo; rw [if_pos rfl]
theorem wo_ne {H : Hp} {x b : Addr} (h : b ≠ x) : wo H x b = H b := by unfold wo; rw [if_neg h]
theorem wo_ex {H : Hp} {x : Addr} : Ex (wo H x) H := fun b o h => by
  by_cases e : b = x
  · rw [e, wo_self] at h; cases h
  · rwa [wo_ne e] at h
theorem wo_t {H : Hp} {x a : Addr} {xs : List V} {o : HO} (hx : H x = some o) (ho : ∀ u v, o ≠ .frz u v) (hn : ∀ ys, o ≠ .tup ys) (h : SqT K H a xs) : SqT K (wo H x) a xs := by
  rcases h with (h | ⟨u, h⟩) | h
  · refine .inl (.inl ?_)
    rw [wo_ne]
    · exact h
    · intro e; rw [e, hx] at h; exact hn xs (Option.some.inj h)
  · refine .inl (.inr ⟨u, ?_⟩)
    rw [wo_ne]
    · exact h
    · intro e; rw [e, hx] at h; exact ho u _ (Option.some.inj h)
  · exact .inr h
end
end Sw
namespace Sw
open PySem PySem.Spec PyProof.Rows L2 Evl
/-! ### walks of three, and of a tuple's items with their numbers -/
section
variable {K : PySem.W.Frag} {σ : L2.St} {H H' : Hp} {ta tb te tx tl : TE} {x y z v : V} {a b c : Addr} {xs ys zs : List V} {n : Nat}
def YTrip (xs ys zs : List V) : Nat → Hp → V → Hp → Prop := fun i H v H' => ∃ T x y z, v = .ref T ∧ H T = none ∧ H' = upd H T (.tup [x, y, z]) ∧ xs[i]? = some x ∧ ys[i]? = some y ∧ zs[i]? = some z
theorem walk_zip3 (lx : xs.length = n) (ly : ys.length = n) (lz : zs.length = n) : Walk (Itz3 K a b c) n (fun H => SqT K H a xs ∧ SqT K H b ys ∧ SqL K H c zs) (YTrip xs ys zs) := by
  refine ⟨fun i _ hi q => ⟨xs, ys, zs, xs[i]'(by omega), ys[i]'(by omega), zs[i]'(by omega), q.1, q.2.1, q.2.2, by simp, by simp, by simp⟩, fun _ q => ⟨xs, ys, zs, q.1, q.2.1, q.2.2, lx, ly, lz⟩, fun i H v H' _ q h => ?_⟩
  obtain ⟨T, x, y, z, h1, h2, h3, h4, h5, h6⟩ := h
  exact ⟨T, x, y, z, h1, h2, h3, h4 xs q.1, h5 ys q.2.1, h6 zs q.2.2⟩
theorem walk_enumT : Walk (IteT K a) xs.length (fun H => SqT K H a xs) (YPair (fun i => some (.int (i : Nat))) (fun i => xs[i]?)) := by
  refine ⟨fun i _ hi q => ⟨xs, xs[i], q, by simp⟩, fun _ q => ⟨xs, q, rfl⟩, fun i H v H' _ q h => ?_⟩
  obtain ⟨T, x, h1, h2, h3, h4⟩ := h
  exact ⟨T, .int (i : Nat), x, h1, h2, h3, rfl, h4 xs q⟩
variable {D : Ends} {tu tz : TS}
theorem q_forZ3 {tt : TA} {j1 j2 j3 : Nat} {G : Hp} (h : EvA tt σ H [.ref a, .ref b, .ref c]) (eG : Ex G H) (hx : SqT K G a xs) (hy : SqT K G b ys) (hz : SqL K G c zs) (lx : xs.length = n) (ly : ys.length = n) (lz : zs.length = n)
    (Pv : Nat → L2.St → Hp → Prop) (h0 : ∀ H1, Ex H H1 → Pv 0 σ H1) (hG : ∀ i σ' H', i ≤ n → Pv i σ' H' → Ex G H')
    (hs : ∀ i x y z σ' H', xs[i]? = some x → ys[i]? = some y → zs[i]? = some z → Pv i σ' H' → ∀ H2, Ex H' H2 → tu { D with nx := Pv (i + 1), ct := Pv (i + 1), bk := tz D } (((σ'.set j1 (some x)).set j2 (some y)).set j3 (some z)) H2)
    (hd : ∀ σ' H', Pv n σ' H' → tz D σ' H') : tSeq (tFor (iZip3 K tt) (gTup K 3 (gCons (gName j1) (gCons (gName j2) (gCons (gName j3) gNil)))) tu) tz D σ H :=
  h H (Ex.refl H) _ fun H1 e1 => ⟨a, b, c, xs, ys, zs, rfl, ex_t (eG.trans e1) hx, ex_t (eG.trans e1) hy, ex_l (eG.trans e1) hz,
    for_it (walk_zip3 lx ly lz) Pv (h0 H1 e1) (fun i σ' H' hi p => ⟨ex_t (hG i σ' H' hi p) hx, ex_t (hG i σ' H' hi p) hy, ex_l (hG i σ' H' hi p) hz⟩)
      (fun i v σ' H' H2 hi p q => by
        obtain ⟨T, x, y, z, rfl, hT, rfl, q1, q2, q3⟩ := q
        exact ⟨T, [x, y, z], rfl, st_of upd_same, rfl, x, [y, z], rfl, y, [z], rfl, z, [], rfl, rfl, hs i x y z σ' H' q1 q2 q3 p _ (Ex.new hT)⟩) hd⟩
/-- for i, x in enumerate(t), t a tuple -/
theorem s_forEnT {tt : TA} {j1 j2 : Nat} (h : EvA tt σ H [.ref a]) (hx : SqT K H a xs)
    (Pv : Nat → L2.St → Hp → Prop) (h0 : ∀ H1, Ex H H1 → Pv 0 σ H1) (hG : ∀ i σ' H', i ≤ xs.length → Pv i σ' H' → Ex H H')
    (hs : ∀ i x σ' H', xs[i]? = some x → Pv i σ' H' → ∀ H2, Ex H' H2 → tu { D with nx := Pv (i + 1), ct := Pv (i + 1), bk := D.nx } ((σ'.set j1 (some (.int (i : Nat)))).set j2 (some x)) H2)
    (hd : ∀ σ' H', Pv xs.length σ' H' → D.nx σ' H') : tFor (iEnumT K tt) (gTup K 2 (gCons (gName j1) (gCons (gName j2) gNil))) tu D σ H :=
  h H (Ex.refl H) _ fun H1 e1 => ⟨a, xs, rfl, ex_t e1 hx,
    for_it walk_enumT Pv (h0 H1 e1) (fun i σ' H' hi p => ex_t (hG i σ' H' hi p) hx)
      (fun i v σ' H' H2 hi p q => by
        obtain ⟨T, x, y, rfl, hT, rfl, q1, q2⟩ := q
        cases q1
        exact ⟨T, [.int (i : Nat), y], rfl, st_of upd_same, rfl, .int (i : Nat), [y], rfl, y, [], rfl, rfl, hs i y σ' H' q2 p _ (Ex.new hT)⟩) hd⟩
/-- [e for i, x in enumerate(t)] -/
theorem el_lcEnT {tt : TA} {j1 j2 : Nat} {vs : List Nat} (v : Nat → V) (h : EvA tt σ H [.ref a]) (hx : SqT K H a xs) (hz : xs.length ≤ 40000)
    (hw : ∀ x y, wipe (((wipe σ vs).set j1 (some x)).set j2 (some y)) vs = wipe σ vs)
    (he : ∀ (i : Nat) (x : V) H1, Ex H H1 → xs[i]? = some x → Ev te (((wipe σ vs).set j1 (some (.int (i : Nat)))).set j2 (some x)) H1 (v i)) :
    EvL (tLc (iEnumT K tt) (gTup K 2 (gCons (gName j1) (gCons (gName j2) gNil))) tYes te vs) σ H ((List.range xs.length).map v) := fun H0 e0 Q q =>
  h H0 e0 _ fun H1 e1 => ⟨a, xs, rfl, ex_t (e0.trans e1) hx, fun Dl hD => by
    rw [← given_all] at q
    refine lc_it (walk_enumT (xs := xs)) (Cw H1 (fun _ => true) v Dl) ⟨hD, Ex.new hD, upd_same⟩ (fun i H' _ p => ex_t ((e0.trans e1).trans p.2.1) hx) (fun i w H' H2 hi p y => ?_) (fun H' p => q Dl H' (fresh_back e1 p.1) (e1.trans p.2.1) p.2.2)
    obtain ⟨T, x, y, rfl, hT, rfl, q1, q2⟩ := y
    cases q1
    have p2 : Cw H1 (fun _ => true) v Dl i (upd H' T (.tup [.int (i : Nat), y])) := ⟨p.1, p.2.1.trans (Ex.new hT), by rw [upd_ne (ne_of_none p.2.2 hT)]; exact p.2.2⟩
    refine ⟨T, [.int (i : Nat), y], rfl, st_of upd_same, rfl, .int (i : Nat), [y], rfl, y, [], rfl, rfl, hw _ _, ?_⟩
    exact cw_turn p2 (by omega) et_yes (fun _ => he i y H1 (e0.trans e1) q2)⟩
/-- some tuple, some list of these items -/
def EvW (K : PySem.W.Frag) (te : TE) (σ : L2.St) (H : Hp) (xs : List V) : Prop := ∀ H1, Ex H H1 → ∀ Q : VK, (∀ p H2, Ex H1 H2 → SqT K H2 p xs → Q (.ref p) H2) → te σ H1 Q
def EvM (K : PySem.W.Frag) (te : TE) (σ : L2.St) (H : Hp) (xs : List V) : Prop := ∀ H1, Ex H H1 → ∀ Q : VK, (∀ p H2, Ex H1 H2 → SqL K H2 p xs → Q (.ref p) H2) → te σ H1 Q
theorem EvU.w (h : EvU te σ H xs) : EvW K te σ H xs := fun H1 e Q q => h H1 e Q fun p H2 _ e2 hp => q p H2 e2 (st_of hp)
theorem EvL.m (h : EvL te σ H xs) : EvM K te σ H xs := fun H1 e Q q => h H1 e Q fun p H2 _ e2 hp => q p H2 e2 (sq_of hp)
theorem ew_of (h : Ev te σ H (.ref a)) (hx : SqT K H a xs) : EvW K te σ H xs := fun H1 e Q q => h H1 e Q fun H2 e2 => q a H2 e2 (ex_t (e.trans e2) hx)
theorem em_of (h : Ev te σ H (.ref a)) (hx : SqL K H a xs) : EvM K te σ H xs := fun H1 e Q q => h H1 e Q fun H2 e2 => q a H2 e2 (ex_l (e.trans e2) hx)
theorem ev_sumW {ns : List Int} (h : EvW K ta σ H (ns.map V.int)) : Ev (tCB (rSumT K) (tCons ta tNil)) σ H (.int ns.sum) := fun H1 e Q q =>
  h H1 e _ fun p H2 e2 h2 => ⟨p, ns, rfl, h2, q H2 e2⟩
theorem ev_sumM {ns : List Int} (h : EvM K ta σ H (ns.map V.int)) : Ev (tCB (rSum K) (tCons ta tNil)) σ H (.int ns.sum) := fun H1 e Q q =>
  h H1 e _ fun p H2 e2 h2 => ⟨p, ns, rfl, h2, q H2 e2⟩
/-- t[:k] -/
theorem ew_take {th : TE} {k : Nat} (h : EvW K te σ H xs) (hk : Ev th σ H (.int (k : Int))) : EvW K (tSl (rSlA K) te tNoPart (tPart th)) σ H (xs.take k) := fun H1 e Q q =>
  h H1 e _ fun p H2 e2 h2 => hk H2 (e.trans e2) _ fun H3 e3 => ⟨(k : Int), rfl, p, xs, rfl, ex_t e3 h2, fun w => by
      have hi : min k xs.length = xs.length := by rw [← HT.sIx_nat xs.length xs.length k]; exact w.2
      have t : xs.take k = xs := List.take_of_length_le (by omega)
      rw [t] at q
      exact q p H3 (e2.trans e3) (ex_t e3 h2), fun _ r hr => by
      refine q r _ ((e2.trans e3).trans (Ex.new hr)) (st_of ?_)
      rw [upd_same]
      unfold cutV
      rw [HT.sIx_none, HT.sIx_nat]
      simp⟩
/-- xs[:k] of a list -/
theorem el_take {th : TE} {k : Nat} (h : EvM K te σ H xs) (hk : Ev th σ H (.int (k : Int))) : EvL (tSl (rSlL K) te tNoPart (tPart th)) σ H (xs.take k) := fun H1 e Q q =>
  h H1 e _ fun p H2 e2 h2 => hk H2 (e.trans e2) _ fun H3 e3 => ⟨(k : Int), rfl, p, xs, rfl, ex_l e3 h2, fun r hr => by
      refine q r _ (fresh_back (e2.trans e3) hr) ((e2.trans e3).trans (Ex.new hr)) ?_
      rw [upd_same]
      unfold cutV
      rw [HT.sIx_none, HT.sIx_nat]
      simp⟩
end
end Sw
namespace Sw
open PySem PySem.Spec PyProof.Rows L2 Evl
/-! ### max of a tuple of numbers -/
section
variable {prog : Program} {w : World} {A : Around} {E : Value → Shared → Prop} {s : Shared} {t : Addr} {xs : Array (Int × Tok)}
theorem max_intTup {Q : Value → Shared → Prop} (hh : A.handled = none) (ht : s.heap.IsTuple t (intItems xs)) (hne : 0 < xs.size)
    (h : ∀ v h' tk, (intItems xs)[argBest (fun i j => decide (numAt xs i > numAt xs j)) (xs.size - 1)]? = some v → (∀ b o, s.heap.get? b = some o → h'.get? b = some o) → Q v { s with heap := h', toks := tk }) :
    wpAny (model prog w) A (call (.builtin "max") [.ref t]) Q E s := by
  obtain ⟨o, ho, _, _, _⟩ := id ht
  have hlt : t < s.heap.objs.size := Heap.lt_size ho
  have hne' : t ≠ s.heap.objs.size := Nat.ne_of_lt hlt
  refine call_max_walk (wpAny_pyIter_tuple ht ?_)
  refine ⟨_, _, _, _, _, _, _, rfl, Walks.tuple (A := A.in1) hh _ t hne' (intItems xs), ⟨⟨_, Heap.get?_push_size _ rfl, rfl, rfl⟩, ht.at fun o e => Heap.get?_push_of_some _ e⟩, fun b hb => ?_, by simpa [intItems] using hne, CmpOf.ints_gt (numAt xs) (fun _ _ => intItems_at), fun v h' tk hP hk => ?_⟩
  · show b < (s.heap.push _).objs.size
    rw [Heap.size_push]
    rcases List.mem_cons.mp hb with rfl | hb
    · exact Nat.lt_succ_self _
    · rw [List.mem_singleton.mp hb]; exact Nat.lt_succ_of_lt hlt
  · refine h v h' tk (by simpa [intItems] using hP) fun b o e => hk b o (fun hm => ?_) (Heap.get?_push_of_some _ e)
    exact absurd (List.mem_singleton.mp hm ▸ Heap.lt_size e) (Nat.lt_irrefl _)
end
section
variable {X : Cx}
def rMaxT (K : PySem.W.Frag) : List V → Hp → VK → Prop := fun vs H Q => ∃ (a : Addr) (ns : List Int), vs = [V.ref a] ∧ SqT K H a (ns.map V.int) ∧ 0 < ns.length ∧ ∀ m, m ∈ ns → (∀ y, y ∈ ns → y ≤ m) → Q (.int m) H
theorem cr_maxT (hc : X.calm = true) : CallR X (.builtin "max") (rMaxT X.K) := by
  intro pins s σ H vs us Q I r h
  obtain ⟨a, ns, rfl, hs, hne, q⟩ := h
  obtain ⟨its, rv, hl, _⟩ := I.tuple hs
  rw [Vals.ref1 r]
  obtain ⟨xs, e⟩ := rv.ints.allInts.items
  have hn : numsOf (intItems xs).toList = ns := by rw [← e]; exact rv.ints.numsOf
  rw [nums_intItems] at hn
  subst hn
  have hl' : s.heap.IsTuple a (intItems xs) := by rw [← e]; exact hl
  have hsz : 0 < xs.size := by simpa using hne
  refine max_intTup (I.ok.hd hc) hl' hsz fun v h' tk hv hk => ?_
  obtain ⟨t', rfl⟩ := intItems_at hv
  obtain ⟨h1, h2⟩ := argBest_gt (numAt xs) (xs.size - 1)
  refine ⟨.int _, H, I.kept hk, ⟨t', rfl⟩, q _ ?_ fun y hy => ?_⟩
  · rw [numAt_eq]; exact PySem.getD_mem (by rw [List.length_map, Array.length_toList]; omega)
  · obtain ⟨j, hj, rfl⟩ := mem_getD hy
    rw [List.length_map, Array.length_toList] at hj
    rw [← numAt_eq]; exact h2 j (by omega)
end
theorem ev_maxT {K : PySem.W.Frag} {σ : L2.St} {H : Hp} {ta : TE} {a : Addr} {ns : List Int} {Qm : Int → Prop} (h : Ev ta σ H (.ref a)) (hx : SqT K H a (ns.map V.int)) (h0 : 0 < ns.length) :
    ∀ H1, Ex H H1 → ∀ Q : VK, (∀ m H2, Ex H1 H2 → m ∈ ns → (∀ y ∈ ns, y ≤ m) → Q (.int m) H2) → tCB (rMaxT K) (tCons ta tNil) σ H1 Q := fun H1 e Q q =>
  h H1 e _ fun H2 e2 => ⟨a, ns, rfl, ex_t (e.trans e2) hx, h0, fun m hm hle => q m H2 e2 hm hle⟩
end Sw
namespace Sw
open PySem PySem.Spec PyProof.Rows L2 Evl
section
variable {K : PySem.W.Frag} {σ : L2.St} {H H' : Hp} {ta tb te tl : TE} {x y z v : V} {a b : Addr} {xs ys : List V}
theorem ev_isN (h : Ev ta σ H x) : Ev (tIsN ta) σ H (.bl (decide (x = .non))) := fun H1 e1 Q q => h H1 e1 _ fun H2 e2 => q H2 e2
theorem ev_eqNil (ha : EvL ta σ H xs) (hb : EvL tb σ H []) (hx : xs = []) : Ev (tOp (rEqD K) ta tb) σ H (.bl true) := ev_opLL ha hb fun p q H1 hp hq _ => fun H2 e2 Q k => by
  subst hx
  exact ⟨.list [], .list [], .lst (sq_of (e2 _ _ hp)) .nil, .lst (sq_of (e2 _ _ hq)) .nil, by decide, by decide, by
    have : PyData.eqv (.list []) (.list []) = true := by decide
    rw [this]; exact k H2 (Ex.refl _)⟩
theorem given_none {n : Nat} {f : Nat → Bool} {v : Nat → V} (h : ∀ i, i < n → f i = false) : given n f v = [] := by
  unfold given
  have : (List.range n).filter f = [] := List.filter_eq_nil_iff.mpr fun i hi => by rw [h i (List.mem_range.mp hi)]; decide
  rw [this]; rfl
/-- two new lists, joined -/
theorem el_catN (ha : EvL ta σ H xs) (hb : EvL tb σ H ys) (hz : xs.length + ys.length ≤ 100000) : EvL (tOp rCat ta tb) σ H (xs ++ ys) := fun H1 e Q q =>
  ha H1 e _ fun p H2 _ e2 hp => hb H2 (e.trans e2) _ fun r H3 _ e3 hr => ⟨p, r, xs, ys, rfl, rfl, e3 _ _ hp, hr, sz_of hz, fun t ht => q t _ (fresh_back (e2.trans e3) ht) ((e2.trans e3).trans (Ex.new ht)) upd_same⟩
theorem el_lcRb {t : TA} {j : Nat} {vs : List Nat} {lo n : Int} (v : Nat → V) (h : EvA t σ H [.int lo, .int n]) (hn : 0 ≤ lo ∧ lo ≤ 10000 ∧ 0 ≤ n ∧ n ≤ 10000) (hw : ∀ x, wipe ((wipe σ vs).set j (some x)) vs = wipe σ vs)
    (he : ∀ (i : Nat) H1, Ex H H1 → lo + (i : Int) < n → Ev te ((wipe σ vs).set j (some (.int (lo + (i : Int))))) H1 (v i)) : EvL (tLc (iRng2 t) (gName j) tYes te vs) σ H ((List.range (n - lo).toNat).map v) := fun H0 e Q q => h H0 e _ fun H1 e1 => by
  rw [← given_all] at q
  exact ⟨lo, n, rfl, ⟨by omega, by omega, by omega, by omega⟩, fun Dl hD =>
    lc_range (lo := lo) (n := (n - lo).toNat) (Cw H1 (fun _ => true) v Dl) ⟨hD, Ex.new hD, upd_same⟩ (fun i H' hi p => ⟨hw _, cw_turn p (by omega) et_yes (fun _ => he i H1 (e.trans e1) (by omega))⟩) (fun H' p => q Dl H' (fresh_back e1 p.1) (e1.trans p.2.1) p.2.2)⟩
end
end Sw
namespace Sw
open PySem PySem.Spec PyProof.Rows L2 Evl
/-- the heap, the objects of N forgotten -/
noncomputable def wn (H : Hp) (N : Addr → Prop) : Hp := fun b => @ite _ (N b) (Classical.propDecidable _) none (H b)
theorem wn_in {H : Hp} {N : Addr → Prop} {b : Addr} (h : N b) : wn H N b = none := by unfold wn; rw [if_pos h]
theorem wn_ni {H : Hp} {N : Addr → Prop} {b : Addr} (h : ¬ N b) : wn H N b = H b := by unfold wn; rw [if_neg h]
theorem wn_some {H : Hp} {N : Addr → Prop} {b : Addr} {o : HO} (h : wn H N b = some o) : ¬ N b ∧ H b = some o := by
  by_cases q : N b
  · rw [wn_in q] at h; cases h
  · rw [wn_ni q] at h; exact ⟨q, h⟩
theorem wn_ex {H : Hp} {N : Addr → Prop} : Ex (wn H N) H := fun _ _ h => (wn_some h).2
theorem wn_mono {H H' : Hp} {N : Addr → Prop} (e : Ex H H') : Ex (wn H N) (wn H' N) := fun b o h => by
  obtain ⟨q, h1⟩ := wn_some h
  rw [wn_ni q]; exact e b o h1
theorem wn_upd {H : Hp} {N : Addr → Prop} {x : Addr} {o : HO} (hx : N x) : Ex (wn H N) (wn (upd H x o) N) := fun b u h => by
  obtain ⟨q, h1⟩ := wn_some h
  have nb : b ≠ x := fun z => q (by rw [z]; exact hx)
  rw [wn_ni q, upd_ne nb]; exact h1
theorem wn_sub {H : Hp} {N M : Addr → Prop} (h : ∀ b, N b → M b) : Ex (wn H M) (wn H N) := fun b o q => by
  obtain ⟨q1, h1⟩ := wn_some q
  rw [wn_ni fun z => q1 (h b z)]; exact h1
theorem wn_t {K : PySem.W.Frag} {H : Hp} {N : Addr → Prop} {a : Addr} {xs : List V} (ha : ¬ N a) (h : SqT K H a xs) : SqT K (wn H N) a xs := by
  rcases h with (h | ⟨u, h⟩) | h
  · exact .inl (.inl (by rw [wn_ni ha]; exact h))
  · exact .inl (.inr ⟨u, by rw [wn_ni ha]; exact h⟩)
  · exact .inr h
def nx (x : Addr) (N : Addr → Prop) : Addr → Prop := fun b => b = x ∨ N b
theorem wn_tx {K : PySem.W.Frag} {H : Hp} {N : Addr → Prop} {x a C dx : Addr} {fs : List (Str × V)} {xs : List V} (hx : H x = some (.ins C dx fs)) (h : SqT K (wn H N) a xs) : SqT K (wn H (nx x N)) a xs := by
  have go : ∀ u, wn H N a = some u → (∀ C dx fs, u ≠ .ins C dx fs) → wn H (nx x N) a = some u := fun u hu hne => by
    obtain ⟨q, h1⟩ := wn_some hu
    rw [wn_ni]
    · exact h1
    · rintro (e | e)
      · rw [e, hx] at h1; exact hne _ _ _ (Option.some.inj h1).symm
      · exact q e
  rcases h with (h | ⟨u, h⟩) | h
  · exact .inl (.inl (go _ h (fun _ _ _ q => nomatch q)))
  · exact .inl (.inr ⟨u, go _ h (fun _ _ _ q => nomatch q)⟩)
  · exact .inr h
end Sw
namespace Sw
open PySem PySem.Spec PyProof.Rows L2 Evl LamX NdefX
/-! ### lambdas that capture names: their objects -/
structure LF where
  qual : Str
  params : Arguments
  body : Expr
  scope : Scope
  cl : List (Str × Addr)
  c : Addr
  dv : Value
abbrev LF.fd (F : LF) (pm ctv : Value) : FuncData := { PySem.W.kla_fn "<lambda>" F.qual F.params F.body F.scope F.cl pm (.ref F.c) ctv with defaults := F.dv }
abbrev LF.nf (F : LF) : NF := ⟨"<lambda>", F.qual, F.params, [], F.scope, F.cl, F.c⟩
def LamO (f : Addr) (F : LF) : HO := .ext fun h => ∃ (od : Option Addr) (sl : Array (Option Value)) (pm ctv : Value), h.get? f = some (⟨.type "function", od, .func (F.fd pm ctv), sl⟩ : Obj)
theorem lamO_at {P : Program} {w : World} {H : Hp} {h : Heap} {f : Addr} {F : LF} (hok : HOk P w H h) (e : H f = some (LamO f F)) : ∃ (od : Option Addr) (sl : Array (Option Value)) (pm ctv : Value), h.get? f = some (⟨.type "function", od, .func (F.fd pm ctv), sl⟩ : Obj) := (hok f _ e).1
theorem lamO_tbl {f : Addr} {F : LF} (ps : Array Value) : LamO f F ≠ .tbl ps := fun z => by unfold LamO at z; cases z
/-! ### the end of a function's making, whatever its defaults -/
section
variable {M : Model} {A : Around} {E Q : Value → Shared → Prop} {s : Shared} {nm ql : Str} {pr : Arguments} {bd : Expr} {sc : Scope} {en : Env} {cc TP : Addr} {ts : Array Value} {po : Pos} {ln : Nat} {mg : Str → Option Value} {cl : List (Str × Addr)} {dv : Value}
abbrev fnDv (ql : Str) (pr : Arguments) (bd : Expr) (sc : Scope) (cl : List (Str × Addr)) (nm : Str) (pm c ct dv : Value) : FuncData := { PySem.W.kla_fn nm ql pr bd sc cl pm c ct with defaults := dv }
theorem tail_hit {cv : Value} (a1 : closureFor sc en = pure cl) (a2 : en.globals = mainGlobals) (a3 : s.heap.Ns mainGlobals mg) (a4 : en.code = .ref cc) (a5 : PySem.W.CodeHd s.heap cc TP) (a6 : s.heap.get? TP = some (PySem.W.tabObj ts)) (a7 : TriplesOk ts.toList) (a8 : codeAmong po ts.toList = some cv) (a9 : s.heap.BuiltinsAt mg TP)
    (k : ∀ (ct : Value) (g : Heap) (n : Tok), (∀ b o, s.heap.get? b = some o → g.get? b = some o) → s.heap.objs.size ≤ g.objs.size → Q (.ref g.objs.size) { s with heap := g.push { cls := .type "function", data := .func (fnDv ql pr bd sc cl nm ((mg "__name__").getD .none) cv ct dv) }, toks := n }) :
    wpAny M A (makeTail nm ql pr (.expr bd) sc en dv .none none po ln) Q E s := by
  obtain ⟨u1, u2, e1, e2, e3, e4, e5, e6, e7, e8⟩ := a9
  unfold makeTail; rw [a1, a2]; apply wpAny_bind; apply wpAny_pure
  rcases cl with _ | ⟨q, r⟩
  · rw [if_pos (List.isEmpty_nil)]
    apply wpAny_bind; apply wpAny_pure
    exact wpAny_bind (wpAny_functionCode_hit a4 (a5.code a6 a7) a8 (wpAny_bind (wpAny_builtinsFor a3 e1 e2 e5 e6 e7 e8 (wpAny_bind (wpAny_nsGet a3 (wpAny_bind (wpAny_pure (wpAny_newObj_type (k .none s.heap s.toks (fun _ _ e => e) (Nat.le_refl _)) (by size_fits)))))))))
  · rw [if_neg (by simp)]
    refine wpAny_bind (wpAny_newTextTuple ?_)
    exact wpAny_bind (wpAny_functionCode_hit a4 ((a5.keeps fun b o e => Heap.get?_push_of_some _ e).code (Heap.get?_push_of_some _ a6) a7) a8 (wpAny_bind (wpAny_builtinsFor (a3.push _) e1 e2 (Heap.get?_push_of_some _ e5) e6 e7 e8 (wpAny_bind (wpAny_nsGet (a3.push _)
      (wpAny_bind (wpAny_pure (wpAny_newObj_type (k _ _ s.toks (fun b o e => Heap.get?_push_of_some _ e) (by rw [Heap.size_push]; omega)) (by size_fits)))))))))
theorem tail_new (a1 : closureFor sc en = pure cl) (a2 : en.globals = mainGlobals) (a3 : s.heap.Ns mainGlobals mg) (a4 : en.code = .ref cc) (a5 : PySem.W.CodeHd s.heap cc TP) (a6 : s.heap.get? TP = some (PySem.W.tabObj ts)) (a7 : TriplesOk ts.toList) (a8 : codeAmong po ts.toList = none) (a0 : mainGlobals ≠ TP) (a9 : s.heap.BuiltinsAt mg TP)
    (k : ∀ c' ct g n, Heap.ExtBut TP s.heap g → s.heap.objs.size ≤ c' → c' < g.objs.size → g.CodeRec (.ref c') ql → g.get? TP = some (PySem.W.tabObj (ts ++ #[rawInt po.line, rawInt po.col, .ref c'])) → Q (.ref g.objs.size) { s with heap := g.push { cls := .type "function", data := .func (fnDv ql pr bd sc cl nm ((mg "__name__").getD .none) (.ref c') ct dv) }, toks := n }) :
    wpAny M A (makeTail nm ql pr (.expr bd) sc en dv .none none po ln) Q E s := by
  obtain ⟨u1, u2, e1, e2, e3, e4, e5, e6, e7, e8⟩ := a9
  unfold makeTail; rw [a1, a2]; apply wpAny_bind; apply wpAny_pure
  rcases cl with _ | ⟨q, r⟩
  · rw [if_pos (List.isEmpty_nil)]
    apply wpAny_bind; apply wpAny_pure
    refine wpAny_bind (wpAny_functionCodeX a4 (a5.code a6 a7) (a5.tab a6) a8 fun c' g n x1 x2 x3 _ x4 x5 _ => ?_)
    have a3' := a3.extBut x1 a0
    exact wpAny_bind (wpAny_builtinsFor a3' e1 e2 (x1 _ _ e4 e5) e6 e7 e8 (wpAny_bind (wpAny_nsGet a3' (wpAny_bind (wpAny_pure (wpAny_newObj_type (k c' .none g n x1 x2 x3 x4 x5.2) (by size_fits)))))))
  · rw [if_neg (by simp)]
    refine wpAny_bind (wpAny_newTextTuple ?_)
    have kp := a5.keeps fun b o e => Heap.get?_push_of_some { cls := .type "tuple", data := .seq (((q :: r).mergeSort fun a b => a.1.cps.toList ≤ b.1.cps.toList).map (Value.ref ·.2)).toArray } e
    refine wpAny_bind (wpAny_functionCodeX a4 (kp.code (Heap.get?_push_of_some _ a6) a7) (kp.tab (Heap.get?_push_of_some _ a6)) a8 fun c' g n x1 x2 x3 _ x4 x5 _ => ?_)
    have a3' := (a3.push _).extBut x1 a0
    have x1' : Heap.ExtBut TP s.heap g := fun b o hb e => x1 b o hb (Heap.get?_push_of_some _ e)
    have x2' : s.heap.objs.size ≤ c' := Nat.le_trans (by rw [Heap.size_push]; omega) x2
    exact wpAny_bind (wpAny_builtinsFor a3' e1 e2 (x1' _ _ e4 e5) e6 e7 e8 (wpAny_bind (wpAny_nsGet a3' (wpAny_bind (wpAny_pure (wpAny_newObj_type (k c' _ g n x1' x2' x3 x4 x5.2) (by size_fits)))))))
end
section
variable {X : Cx} {pins : List (Addr × Obj)} {σ : L2.St} {H : Hp} {s : Shared}
theorem inv_lam {F : LF} {o : Obj} {t' : Nat} {pm ctv : Value} (I : Inv X pins σ H s) (ho : o = { cls := .type "function", data := .func (F.fd pm ctv) }) : Inv X pins σ (upd H s.heap.objs.size (LamO s.heap.objs.size F)) { s with heap := s.heap.push o, toks := t' } := by
  subst ho
  refine I.laid (fun b u e => Heap.get?_push_of_some _ e) (Nat.le_refl _) ?_
  have g : (s.heap.push ({ cls := .type "function", data := .func (F.fd pm ctv) } : Obj)).get? s.heap.objs.size = some { cls := .type "function", data := .func (F.fd pm ctv) } := Heap.get?_push_size _ rfl
  exact ⟨⟨_, _, pm, ctv, g⟩, ⟨_, g⟩, fun _ _ ⟨od, sl, p, t, z⟩ st => ⟨od, sl, p, t, st _ z⟩⟩
/-- a lambda is made; its object and its code object are known from then on -/
theorem lam_tail {T : List NTab} {nm : Nat → Nat → Str} {c P : Addr} {params : Arguments} {body : Expr} {scope : Scope} {pos : Pos} {dv : Value} {E Q : Value → Shared → Prop} (I : Inv X pins σ H s) (TB : TabB X.base X.mg c P) (hcode : X.env.code = .ref c) (hm : (P, nm) ∈ T)
    (hn : nm pos.line pos.col = X.env.qual ++ "<lambda>") (hu : ∀ p ∈ T, p.1 = P → p.2 = nm) (hT : TabsN T H) (hfree : ∀ y ∈ scope.names, y.2 = .free → ∃ c, X.env.cells.lookup y.1 = some c)
    (fin : ∀ (f c' : Addr) (H1 : Hp) (s' : Shared), Inv X pins σ H1 s' → ExtN H H1 → (∀ b, H1 b = Option.none → H b = Option.none) → TabsN T H1 → H f = none → H1 f = some (LamO f ⟨X.env.qual ++ "<lambda>", params, body, scope, cloFrom X.env.cells scope.names [], c', dv⟩) → H1 c' = some (CodeO c' (X.env.qual ++ "<lambda>")) → Q (.ref f) s') :
    wpAny (model X.prog X.w) X.A (makeTail "<lambda>" (X.env.qual ++ "<lambda>") params (.expr body) scope X.env dv .none none pos pos.line) Q E s := by
  obtain ⟨ps, hP, ht, ha⟩ := (show TabN H P nm from hT _ hm)
  have bP : s.heap.BuiltinsAt X.mg P := TB.bm.keeps I.bk
  have gP : s.heap.get? P = some { cls := .none, data := .fields ps } := I.hok P _ hP
  cases hc : codeAmong pos ps.toList with
  | some cv =>
    obtain ⟨c', ecv, hco⟩ := ha pos cv hc
    subst ecv; rw [hn] at hco
    refine tail_hit (mg := X.mg) (closure_ok hfree) I.ok.glob (I.mod.glob.keeps I.bk) hcode (TB.code.keeps I.bk) gP ht hc bP fun ctv h' tk hx hsz => ?_
    have I1 : Inv X pins σ H { s with heap := h', toks := tk } := I.kept hx
    have nF : H h'.objs.size = none := I1.hok.fresh (Nat.le_refl _)
    have I2 := inv_lam (F := ⟨X.env.qual ++ "<lambda>", params, body, scope, cloFrom X.env.cells scope.names [], c', dv⟩) (t' := tk) (pm := (X.mg "__name__").getD .none) (ctv := ctv) I1 rfl
    have k1 : ∀ b o, H b = some o → upd H h'.objs.size (LamO h'.objs.size ⟨X.env.qual ++ "<lambda>", params, body, scope, cloFrom X.env.cells scope.names [], c', dv⟩) b = some o := fun b o e => (upd_ne (ne_of_none e nF)).trans e
    exact fin h'.objs.size c' _ _ I2 (fun b o e _ => k1 b o e) (fun b e => upd_none e) (hT.ext k1) nF upd_same (k1 _ _ hco)
  | none =>
    refine tail_new (mg := X.mg) (closure_ok hfree) I.ok.glob (I.mod.glob.keeps I.bk) hcode (TB.code.keeps I.bk) gP ht hc TB.gP bP fun c' ctv h' tk hx hge hlt hrec htb => ?_
    obtain ⟨c2, oc, vs, t, e2, hoc, hd, hv⟩ := hrec
    cases e2
    have nC : H c' = none := I.hok.fresh hge
    have I1 := inv_table (t' := tk) (more := #[rawInt pos.line, rawInt pos.col, .ref c']) (h' := h') I hP (fun b o hb e => hx b o hb e) htb hge ⟨oc, vs, t, hoc, hd, hv⟩
    have kE : ExtN H (upd (upd H P (.tbl (ps ++ #[rawInt pos.line, rawInt pos.col, .ref c']))) c' (CodeO c' (X.env.qual ++ "<lambda>"))) := fun b o e n => by
      rw [upd_ne (ne_of_none e nC), upd_ne (fun z => n ps (Option.some.inj (e.symm.trans (by rw [z]; exact hP))))]; exact e
    have aL : (ps ++ #[rawInt pos.line, rawInt pos.col, .ref c']).toList = ps.toList ++ [rawInt pos.line, rawInt pos.col, .ref c'] := by simp
    have T1 : TabsN T (upd (upd H P (.tbl (ps ++ #[rawInt pos.line, rawInt pos.col, .ref c']))) c' (CodeO c' (X.env.qual ++ "<lambda>"))) := fun p hp => by
      by_cases hb : p.1 = P
      · rw [hu p hp hb, hb]
        refine ⟨_, (upd_ne (ne_of_none hP nC)).trans upd_same, by rw [aL]; exact PySem.TriplesOk_snoc _ _ _ _ ht, fun p' cv hcv => ?_⟩
        rw [aL] at hcv
        rcases among_app2 _ ht hcv with z | ⟨z, z1, z2⟩
        · obtain ⟨c0, g1, g2⟩ := ha p' cv z; exact ⟨c0, g1, kE _ _ g2 codeO_ne⟩
        · exact ⟨c', z, by rw [← z1, ← z2, hn]; exact upd_same⟩
      · obtain ⟨ps', a1, a2, a3⟩ := hT p hp
        refine ⟨ps', by rw [upd_ne (ne_of_none a1 nC), upd_ne hb]; exact a1, a2, fun p' cv hcv => ?_⟩
        obtain ⟨c0, g1, g2⟩ := a3 p' cv hcv; exact ⟨c0, g1, kE _ _ g2 codeO_ne⟩
    have nF := I1.hok.fresh (Nat.le_refl _)
    have I2 := inv_lam (F := ⟨X.env.qual ++ "<lambda>", params, body, scope, cloFrom X.env.cells scope.names [], c', dv⟩) (t' := tk) (pm := (X.mg "__name__").getD .none) (ctv := ctv) I1 rfl
    exact fin h'.objs.size c' _ _ I2 (fun b o e n => (upd_ne (ne_of_none (kE b o e n) nF)).trans (kE b o e n)) (fun b e => upd_none (upd_none (upd_none e))) (T1.ext fun b o e => (upd_ne (ne_of_none e nF)).trans e)
      (I.hok.fresh (Nat.le_trans hge (Nat.le_of_lt hlt))) upd_same ((upd_ne (Nat.ne_of_lt hlt)).trans upd_same)
theorem lam_new {T : List NTab} {nm : Nat → Nat → Str} {c P : Addr} {params : Arguments} {body : Expr} {scope : Scope} {pos : Pos} {E Q : Value → Shared → Prop} (I : Inv X pins σ H s) (TB : TabB X.base X.mg c P) (hcode : X.env.code = .ref c) (hm : (P, nm) ∈ T)
    (hn : nm pos.line pos.col = X.env.qual ++ "<lambda>") (hu : ∀ p ∈ T, p.1 = P → p.2 = nm) (hT : TabsN T H) (hdef : defaultsOf params X.env = ([], [])) (hfree : ∀ y ∈ scope.names, y.2 = .free → ∃ c, X.env.cells.lookup y.1 = some c)
    (fin : ∀ (f c' : Addr) (H1 : Hp) (s' : Shared), Inv X pins σ H1 s' → ExtN H H1 → (∀ b, H1 b = Option.none → H b = Option.none) → TabsN T H1 → H f = none → H1 f = some (LamO f ⟨X.env.qual ++ "<lambda>", params, body, scope, cloFrom X.env.cells scope.names [], c', .none⟩) → H1 c' = some (CodeO c' (X.env.qual ++ "<lambda>")) → Q (.ref f) s') :
    wpAny (model X.prog X.w) X.A (eval (.Lambda params body scope pos) X.env) Q E s := by
  refine PySem.W.kla_eval hdef ?_
  rw [makeFunction_eq]
  simp only [List.zip_nil_right, List.filterMap_nil, List.isEmpty_nil, if_true, pure_bind]
  exact lam_tail I TB hcode hm hn hu hT hfree fin
end
/-- the reading of a lambda: a new function, its code known -/
def tLamE (T : List NTab) (mk : Addr → LF) : TE := fun σ H Q => TabsN T H ∧ ∀ (f c' : Addr) (H1 : Hp), ExtN H H1 → (∀ b, H1 b = Option.none → H b = Option.none) → TabsN T H1 → H f = none → H1 f = some (LamO f (mk c')) → H1 c' = some (CodeO c' (mk c').qual) → Q (.ref f) H1
theorem pe_lamE {X : Cx} {T : List NTab} {nm : Nat → Nat → Str} {c P : Addr} {params : Arguments} {body : Expr} {scope : Scope} {pos : Pos} (TB : TabB X.base X.mg c P) (hcode : X.env.code = .ref c) (hm : (P, nm) ∈ T) (hn : nm pos.line pos.col = X.env.qual ++ "<lambda>") (hu : ∀ p ∈ T, p.1 = P → p.2 = nm) (hdef : defaultsOf params X.env = ([], []))
    (hfree : ∀ y ∈ scope.names, y.2 = .free → X.env.scope.names.lookup y.1 = some .cell ∨ X.env.scope.names.lookup y.1 = some .free) : PE X (.Lambda params body scope pos) (tLamE T fun c' => ⟨X.env.qual ++ "<lambda>", params, body, scope, cloFrom X.env.cells scope.names [], c', .none⟩) := by
  refine ⟨fun pins s σ H Q I ⟨hT, h⟩ => ?_⟩
  exact lam_new I TB hcode hm hn hu hT hdef (fun y hy e => (hfree y hy e).elim (fun z => I.ok.has _ (.inl z)) fun z => I.ok.has _ (.inr z)) fun f c' H1 s' I1 e1 e2 e3 e4 e5 e6 => ⟨.ref f, H1, I1, rfl, h f c' H1 e1 e2 e3 e4 e5 e6⟩
/-! ### what may be called: a promise that goes with an address -/
/-- called in any state that has all of S, the function at f keeps the promise sp -/
def Cal (P : Program) (w : World) (K : PySem.W.Frag) (mg : Str → Option Value) (base : Heap) (CX : CXT) (k : Nat) (f : Addr) (sp : Sp) (S : Hp) : Prop :=
  (∃ F, S f = some (LamO f F)) ∧ ∀ (A : Around) (outer : List Env) (s : Shared) (H : Hp) (us : List Value) (vs : List V) (Q : VK) (E : XK), Ex S H → Room k A → Env0 P w K mg base A outer s H → Vals vs us → sp vs H Q E →
    codeAny (model P w) A (.call (.ref f) ⟨us, []⟩) (CR CX outer P w H s Q E) s
theorem Cal.mono {P : Program} {w : World} {K : PySem.W.Frag} {mg : Str → Option Value} {base : Heap} {CX : CXT} {k : Nat} {f : Addr} {sp : Sp} {S S' : Hp} (h : Cal P w K mg base CX k f sp S) (e : Ex S S') : Cal P w K mg base CX k f sp S' :=
  ⟨let ⟨F, z⟩ := h.1; ⟨F, e _ _ z⟩, fun A outer s H us vs Q E e2 => h.2 A outer s H us vs Q E (e.trans e2)⟩
def tCal (P : Program) (w : World) (K : PySem.W.Frag) (mg : Str → Option Value) (base : Heap) (CX : CXT) (k i : Nat) (E : XK) (t : TA) : TE := fun σ H Q => ∃ f sp S, σ[i]? = some (some (.ref f)) ∧ Cal P w K mg base CX k f sp S ∧ Ex S H ∧ t σ H fun vs H1 => Ex S H1 ∧ sp vs H1 Q E
section
variable {X : Cx} {CX : CXT} {i j k : Nat} {x : Str} {E : XK} {t : TA} {e : Expr} {es : List Expr} {p pos : Pos}
theorem lam_fnAt {pins : List (Addr × Obj)} {σ : L2.St} {H S : Hp} {s : Shared} {f : Addr} {sp : Sp} (I : Inv X pins σ H s) (C : Cal X.prog X.w X.K X.mg X.base CX k f sp S) (e : Ex S H) : PySem.W.FnAt f s.heap := by
  obtain ⟨F, z⟩ := C.1
  obtain ⟨od, sl, pm, ctv, ho⟩ := lamO_at I.hok (e _ _ z)
  exact ⟨_, od, _, sl, ho⟩
theorem run_cal {pins : List (Addr × Obj)} {σ : L2.St} {H S : Hp} {s : Shared} {f : Addr} {sp : Sp} {us : List Value} {vs : List V} {Q : VK} (I : Inv X pins σ H s) (C : Cal X.prog X.w X.K X.mg X.base CX k f sp S) (hr : Room k X.A) (hx : Passes CX X E) (eS : Ex S H) (r : Vals vs us) (q : sp vs H Q E) :
    wpAny (model X.prog X.w) X.A (call (.ref f) us) (EP X pins σ Q) X.xe s := by
  refine wpAny_call (codeAny_mono (C.2 X.A X.stack s H us vs Q E eS hr I.env0 r q) fun r s' hq => ?_)
  match r, hq with
  | .error e, hq => exact hx pins σ H s e s' I hq
  | .ok (.ret u), hq => exact I.after hq
  | .ok .next, hq => exact False.elim hq
  | .ok .brk, hq => exact False.elim hq
  | .ok .cont, hq => exact False.elim hq
theorem pe_cal (hr : Room j X.A) (hk : k ≤ j) (hx : Passes CX X E) (hN : X.N[i]? = some x) (hv : Vis X.env.scope x) (ha : PA X (e :: es) t) (hd : (x == ("__debug__" : Str)) = false := by decide) (hcd : (x == ("__classdict__" : Str)) = false := by decide)
    (he : starEach (e :: es) X.env = (false, eval e X.env) :: starEach es X.env := by rfl) (hpl : (backTo pos (starEach es X.env)).any (·.1) = false := by rfl) : PE X (.Call (.Name x p) (e :: es) [] pos) (tCal X.prog X.w X.K X.mg X.base CX k i E t) := by
  refine ⟨fun pins s σ H Q I ⟨f, sp, S, hs, C, eS, ht⟩ => ?_⟩
  refine wpAny_Call_Name_kw (thn ((pe_var (pos := p) hN hv hd hcd).run pins s σ H (fun v H1 => v = .ref f ∧ H1 = H) I ⟨.ref f, hs, rfl, rfl⟩) fun u s1 ⟨v, H1, I1, r1, ev, eH⟩ => ?_)
  subst ev eH
  obtain rfl : u = Value.ref f := r1
  exact PySem.W.callWith_F (first := []) (lam_fnAt I1 C eS) (thn (ha.run pos pins s1 σ H1 _ I1 ht) fun us s2 ⟨vs, H2, I2, r, e2, q⟩ => ⟨lam_fnAt I2 C e2, run_cal I2 C (hr.mono hk) hx e2 r q⟩) he hpl
theorem pe_cal0 (hr : Room j X.A) (hk : k ≤ j) (hx : Passes CX X E) (hN : X.N[i]? = some x) (hv : Vis X.env.scope x) (hd : (x == ("__debug__" : Str)) = false := by decide) (hcd : (x == ("__classdict__" : Str)) = false := by decide) :
    PE X (.Call (.Name x p) [] [] pos) (tCal X.prog X.w X.K X.mg X.base CX k i E tNil) := by
  refine ⟨fun pins s σ H Q I ⟨f, sp, S, hs, C, eS, e2, q⟩ => ?_⟩
  refine wpAny_Call_Name_kw (thn ((pe_var (pos := p) hN hv hd hcd).run pins s σ H (fun v H1 => v = .ref f ∧ H1 = H) I ⟨.ref f, hs, rfl, rfl⟩) fun u s1 ⟨v, H1, I1, r1, ev, eH⟩ => ?_)
  subst ev eH
  obtain rfl : u = Value.ref f := r1
  exact PySem.W.callWith_F0 (first := []) (lam_fnAt I1 C eS) (run_cal I1 C (hr.mono hk) hx e2 .nil q)
theorem pe_calE (P : Program) (w : World) (K : PySem.W.Frag) (mg : Str → Option Value) (base : Heap) (h1 : X.prog = P) (h2 : X.w = w) (h3 : X.K = K) (h4 : X.mg = mg) (h5 : X.base = base) (hr : Room j X.A) (hk : k ≤ j) (hx : Passes CX X E) (hN : X.N[i]? = some x) (hv : Vis X.env.scope x) (ha : PA X (e :: es) t)
    (hd : (x == ("__debug__" : Str)) = false := by decide) (hcd : (x == ("__classdict__" : Str)) = false := by decide) (he : starEach (e :: es) X.env = (false, eval e X.env) :: starEach es X.env := by rfl) (hpl : (backTo pos (starEach es X.env)).any (·.1) = false := by rfl) :
    PE X (.Call (.Name x p) (e :: es) [] pos) (tCal P w K mg base CX k i E t) := by
  subst h1 h2 h3 h4 h5
  exact pe_cal hr hk hx hN hv ha hd hcd he hpl
theorem pe_cal0E (P : Program) (w : World) (K : PySem.W.Frag) (mg : Str → Option Value) (base : Heap) (h1 : X.prog = P) (h2 : X.w = w) (h3 : X.K = K) (h4 : X.mg = mg) (h5 : X.base = base) (hr : Room j X.A) (hk : k ≤ j) (hx : Passes CX X E) (hN : X.N[i]? = some x) (hv : Vis X.env.scope x)
    (hd : (x == ("__debug__" : Str)) = false := by decide) (hcd : (x == ("__classdict__" : Str)) = false := by decide) : PE X (.Call (.Name x p) [] [] pos) (tCal P w K mg base CX k i E tNil) := by
  subst h1 h2 h3 h4 h5
  exact pe_cal0 hr hk hx hN hv hd hcd
end
end Sw
namespace Sw
open PySem PySem.Spec PyProof.Rows L2 Evl LamX NdefX
/-! ### cells that are known for a while: frozen for a callee -/
abbrev okT : HO := .ext fun _ => True
/-- of H, what N names is as H0 has it -/
noncomputable def mixN (N : Addr → Prop) (H0 H : Hp) : Hp := fun b => @ite _ (N b) (Classical.propDecidable _) (H0 b) (H b)
theorem mix_in {N : Addr → Prop} {H0 H : Hp} {b : Addr} (h : N b) : mixN N H0 H b = H0 b := by unfold mixN; rw [if_pos h]
theorem mix_ni {N : Addr → Prop} {H0 H : Hp} {b : Addr} (h : ¬ N b) : mixN N H0 H b = H b := by unfold mixN; rw [if_neg h]
structure Frz (X : Cx) (σ : L2.St) (H Hz : Hp) (N : Addr → Prop) : Prop where
  iff : ∀ b, N b ↔ ∃ y, X.env.cells.lookup y = some b
  out : ∀ b, ¬ N b → Hz b = H b
  off : ∀ b, N b → H b = Option.none
  inn : ∀ b, N b → ∃ o v, Hz b = some (.frz o okT) ∧ o.data = .cell v
  val : ∀ (i : Nat) (y : Str) (v : V) (c : Addr), X.N[i]? = some y → σ[i]? = some (some v) → (X.env.scope.names.lookup y = some .cell ∨ X.env.scope.names.lookup y = some .free) → X.env.cells.lookup y = some c → ∃ o u, Hz c = some (.frz o okT) ∧ o.data = .cell (some u) ∧ L2.RelV v u
  inj : ∀ x y c, X.env.cells.lookup x = some c → X.env.cells.lookup y = some c → x = y
  has : ∀ y, (X.env.scope.names.lookup y = some .cell ∨ X.env.scope.names.lookup y = some .free) → ∃ c, X.env.cells.lookup y = some c
theorem okT_ok {P : Program} {w : World} {H : Hp} {h : Heap} {a : Addr} {o : Obj} (e : h.get? a = some o) : ObjOk P w H h a (.frz o okT) := ⟨e, trivial, ⟨o, e⟩, fun _ _ _ _ => trivial⟩
/-- what is frozen, and how it comes back -/
theorem Frz.ex_ {X : Cx} {σ : L2.St} {H Hz : Hp} {N : Addr → Prop} (z : Frz X σ H Hz N) : Ex H Hz := fun b o e => by
  rw [z.out b (fun n => by rw [z.off b n] at e; cases e)]; exact e
theorem frz_env {X : Cx} {pins : List (Addr × Obj)} {σ : L2.St} {H : Hp} {s : Shared} (I : Inv X pins σ H s) (hfn : ∀ y, X.fn y = true) : ∃ Hz N, Frz X σ H Hz N ∧ Env0 X.prog X.w X.K X.mg X.base X.A X.stack s Hz ∧
    ∀ (Q : VK) (u : Value) (s' : Shared), CE X.stack X.prog X.w Hz s (fun v H2 => Q v (wn H2 N)) u s' → CE X.stack X.prog X.w H s Q u s' := by
  have cellOf : ∀ b, (∃ y, X.env.cells.lookup y = some b) → ∃ o v, s.heap.get? b = some o ∧ o.data = .cell v := fun b ⟨y, e⟩ => let ⟨v, o, h1, h2⟩ := I.cell y b e; ⟨o, v, h1, h2⟩
  let fz : Hp := fun b => (s.heap.get? b).map fun o => .frz o okT
  refine ⟨mixN (fun b => ∃ y, X.env.cells.lookup y = some b) fz H, fun b => ∃ y, X.env.cells.lookup y = some b, ?_, ?_, ?_⟩
  · refine ⟨fun b => Iff.rfl, fun b n => mix_ni n, fun b ⟨y, e⟩ => I.freeC y b e, fun b n => ?_, fun i y v c h1 h2 h3 h4 => ?_, I.ok.inj, I.ok.has⟩
    · obtain ⟨o, v, e1, e2⟩ := cellOf b n
      exact ⟨o, v, by rw [mix_in n]; show (s.heap.get? b).map _ = _; rw [e1]; rfl, e2⟩
    · obtain ⟨m, hn, hl⟩ := I.loc
      obtain ⟨u, r, l⟩ := hl i y v h1 h2 (h3.elim (fun z => .inr (.inl z)) fun z => .inr (.inr z))
      rcases l with ⟨z, _⟩ | ⟨_, a, ha, o, ho, hd⟩
      · have z' : X.env.scope.names.lookup y = some .local := z
        rcases h3 with k | k <;> rw [k] at z' <;> cases z'
      · rw [h4] at ha; cases ha
        exact ⟨o, u, by rw [mix_in ⟨y, h4⟩]; show (s.heap.get? c).map _ = _; rw [ho]; rfl, hd, r⟩
  · have e0 := I.env0
    have big : ∀ b, (∃ y, X.env.cells.lookup y = some b) → X.s_0.heap.objs.size ≤ b := fun b ⟨y, e⟩ => I.ok.cab y b (hfn y) e
    refine ⟨e0.frames, e0.mod, fun b o e => ⟨(e0.bs b o e).1, ?_⟩, e0.bsz, e0.funs, fun b hb => ?_, fun a o e => ?_, e0.bare⟩
    · rw [mix_ni fun n => absurd (Nat.lt_of_lt_of_le (Heap.lt_size (I.ok.bs b o e).1) (big b n)) (Nat.lt_irrefl _)]
      exact (e0.bs b o e).2
    · rw [mix_ni]
      · exact e0.frf b hb
      · intro n
        rcases List.mem_cons.mp (I.stkSub b hb) with z | z
        · obtain ⟨y, e⟩ := n
          exact I.cne y b e z
        · obtain ⟨_, o, ho, _⟩ := I.ok.funs.mem z
          exact absurd (Nat.lt_of_lt_of_le (Heap.lt_size ho) (big b n)) (Nat.lt_irrefl _)
    · by_cases n : ∃ y, X.env.cells.lookup y = some a
      · rw [mix_in n] at e
        obtain ⟨o', v, e1, e2⟩ := cellOf a n
        have e3 : (s.heap.get? a).map (fun o => HO.frz o okT) = some o := e
        rw [e1] at e3; cases e3
        exact okT_ok e1
      · rw [mix_ni n] at e
        refine (e0.hok a o e).stay (fun b u _ q => q) (fun b q => ?_) fun b xs q => ?_
        · rw [mix_ni fun ⟨y, z⟩ => by rw [I.freeC y b z] at q; cases q]; exact q
        · rw [mix_ni fun ⟨y, z⟩ => by rw [I.freeC y b z] at q; cases q]; exact q
  · rintro Q u s' ⟨v, H2, os, bare, un, hok, r, q⟩
    have fr : ∀ b, (∃ y, X.env.cells.lookup y = some b) → ∀ o, s.heap.get? b = some o → H2 b = some (.frz o okT) ∧ s'.heap.get? b = some o := fun b n o e => by
      have z := un.frzs b o okT (by rw [mix_in n]; show (s.heap.get? b).map _ = _; rw [e]; rfl)
      exact ⟨z, (hok b _ z).1⟩
    have mz : ∀ {b : Addr}, (¬ ∃ y, X.env.cells.lookup y = some b) → H b = Option.none → mixN (fun b => ∃ y, X.env.cells.lookup y = some b) fz H b = Option.none := fun n e => (mix_ni n).trans e
    refine ⟨v, wn H2 _, os, bare, ⟨fun b o e n h1 h2 => ?_, fun b o e n h1 h2 => ?_, fun b o e n h2 => ?_, un.there, fun b xs e => ?_, fun b o u e => ?_, fun b ps e => ?_⟩, fun a o e => ?_, r, q⟩
    · by_cases c : ∃ y, X.env.cells.lookup y = some b
      · exact (fr b c o e).2
      · exact un.keep b o e (mz c n) h1 h2
    · by_cases c : ∃ y, X.env.cells.lookup y = some b
      · exact ⟨o.slots, (fr b c o e).2⟩
      · exact un.slot b o e (mz c n) h1 h2
    · by_cases c : ∃ y, X.env.cells.lookup y = some b
      · exact wn_in c
      · rw [wn_ni c]; exact un.free b o e (mz c n) h2
    · have c : ¬ ∃ y, X.env.cells.lookup y = some b := fun ⟨y, z⟩ => by rw [I.freeC y b z] at e; cases e
      rw [wn_ni c]; exact un.tups b xs ((mix_ni c).trans e)
    · have c : ¬ ∃ y, X.env.cells.lookup y = some b := fun ⟨y, z⟩ => by rw [I.freeC y b z] at e; cases e
      rw [wn_ni c]; exact un.frzs b o u ((mix_ni c).trans e)
    · have c : ¬ ∃ y, X.env.cells.lookup y = some b := fun ⟨y, z⟩ => by rw [I.freeC y b z] at e; cases e
      obtain ⟨more, z⟩ := un.tbls b ps ((mix_ni c).trans e)
      exact ⟨more, by rw [wn_ni c]; exact z⟩
    · obtain ⟨c, e'⟩ := wn_some e
      have nc : ∀ {b : Addr} {o : HO}, H2 b = some o → (∀ ob, o ≠ .frz ob okT) → ¬ ∃ y, X.env.cells.lookup y = some b := fun {b o} q ne n => by
        obtain ⟨ob, _, e1, _⟩ := cellOf b n
        rw [(fr b n ob e1).1] at q
        exact ne ob (Option.some.inj q).symm
      refine (hok a o e').stay (fun b u _ q => q) (fun b q => ?_) fun b xs q => ?_
      · rw [wn_ni (nc q fun _ z => nomatch z)]; exact q
      · rw [wn_ni (nc q fun _ z => nomatch z)]; exact q
/-- f(..) of a def that lets nothing out, the caller's cells frozen while it runs -/
def tCallZ (X : Cx) (sp : Sp) (dvs : List V) (t : TA) : TE := fun σ H Q => t σ H fun vs H1 => ∀ Hz N, Frz X σ H1 Hz N → sp (vs ++ dvs) Hz (fun v H2 => Q v (wn H2 N)) E0
theorem pe_callZ {X : Cx} {k : Nat} {f : Addr} {fd : FuncData} {ps : List Str} {sp : Sp} {dvs : List V} {ds : List Value} {x : Str} {p pos : Pos} {e : Expr} {es : List Expr} {t : TA} (F : FnOk X.prog X.w X.K X.mg X.base L2.CX0 k f fd ps sp) (hr : Room k X.A) (hg : Gl X x) (hm : X.mg x = some (.ref f)) (hk : PySem.W.keepIn X.K (.ref f) = true)
    (hb : L2.Binds X.K fd ps ds) (hd : Vals dvs ds) (ha : PA X (e :: es) t) (hfn : ∀ y, X.fn y = true := by intro _; rfl) (hdb : (x == ("__debug__" : Str)) = false := by decide) (he : starEach (e :: es) X.env = (false, eval e X.env) :: starEach es X.env := by rfl) (hpl : (backTo pos (starEach es X.env)).any (·.1) = false := by rfl) :
    PE X (.Call (.Name x p) (e :: es) [] pos) (tCallZ X sp dvs t) := by
  refine ⟨fun pins s σ H Q I h => ?_⟩
  refine wpAny_Call_Name_kw (ld_glob I hg hm (PySem.W.callWith_K (h₀ := X.base) I.ok.mod.kin hk (thn (ha.run pos pins s σ H _ I h) fun us s1 ⟨vs, H1, I1, r, q⟩ => ⟨I1.kIn, ?_⟩) he hpl) hdb)
  obtain ⟨Hz, N, fz, e0, back⟩ := frz_env I1 hfn
  have q := q Hz N fz
  have r2 : Vals (vs ++ dvs) (us ++ ds) := r.append hd
  have hl : (us ++ ds).length = ps.length := by rw [← r2.length]; exact F.len _ _ _ _ q
  refine wpAny_call (codeAny_mono (F.run X.A X.stack s1 Hz ⟨us, []⟩ (us ++ ds) (vs ++ dvs) _ _ hr e0 (hb s1 us I1.kIn hl) r2 q) fun r s' hq => ?_)
  match r, hq with
  | .error e, hq => exact (show False from hq).elim
  | .ok (.ret u), hq => exact I1.after (back Q u s' hq)
  | .ok .next, hq => exact False.elim hq
  | .ok .brk, hq => exact False.elim hq
  | .ok .cont, hq => exact False.elim hq
end Sw
namespace Sw
open PySem PySem.Spec PyProof.Rows L2 Evl LamX NdefX
/-! ### a lambda's promise, from its body -/
structure CloK (S : Hp) (f : Addr) (F : LF) (fr : List Str) (ws : List (Option V)) : Prop where
  fn : S f = some (LamO f F)
  co : S F.c = some (CodeO F.c F.qual)
  len : ws.length = fr.length
  all : ∀ y c, F.cl.lookup y = some c → ∃ o v, S c = some (.frz o okT) ∧ o.data = .cell v
  inj : ∀ x y c, F.cl.lookup x = some c → F.cl.lookup y = some c → x = y
  has : ∀ (i : Nat) (y : Str), fr[i]? = some y → ∃ c, F.cl.lookup y = some c ∧ ∀ v, ws[i]? = some (some v) → ∃ o u, S c = some (.frz o okT) ∧ o.data = .cell (some u) ∧ L2.RelV v u
theorem CloK.mono {S S' : Hp} {f : Addr} {F : LF} {fr : List Str} {ws : List (Option V)} (e : Ex S S') (C : CloK S f F fr ws) : CloK S' f F fr ws :=
  ⟨e _ _ C.fn, e _ _ C.co, C.len, fun y c h => let ⟨o, v, a, b⟩ := C.all y c h; ⟨o, v, e _ _ a, b⟩, C.inj, fun i y h => let ⟨c, a, b⟩ := C.has i y h; ⟨c, a, fun v hv => let ⟨o, u, p, q⟩ := b v hv; ⟨o, u, e _ _ p, q⟩⟩⟩
/-- the cells that a lambda captured -/
def clN (F : LF) : Addr → Prop := fun b => ∃ y, F.cl.lookup y = some b
theorem clo_frz {X : Cx} {σ : L2.St} {H Hz : Hp} {N : Addr → Prop} {f : Addr} {F : LF} {scope : Scope} {fr : List Str} {js : List Nat} (z : Frz X σ H Hz N) (hf : H f = some (LamO f F)) (hc : H F.c = some (CodeO F.c F.qual)) (hcl : F.cl = cloFrom X.env.cells scope.names [])
    (hfree : ∀ y ∈ scope.names, y.2 = .free → X.env.scope.names.lookup y.1 = some .cell ∨ X.env.scope.names.lookup y.1 = some .free) (hfr : ∀ y ∈ fr, (y, NameKind.free) ∈ scope.names) (hjs : js.map (fun j => X.N[j]?) = fr.map some) : CloK Hz f F fr (js.map (slotAt σ)) := by
  have hF : ∀ y ∈ scope.names, y.2 = .free → ∃ c, X.env.cells.lookup y.1 = some c := fun y hy e => z.has y.1 (hfree y hy e)
  have sub : ∀ y c, F.cl.lookup y = some c → X.env.cells.lookup y = some c := fun y c e => clo_cm hF (by rw [hcl] at e; exact e)
  have kn : ∀ {a : Addr} {o : HO}, H a = some o → Hz a = some o := fun {a o} e => z.ex_ a o e
  have ln : js.length = fr.length := by
    have q := congrArg List.length hjs
    rw [List.length_map, List.length_map] at q; exact q
  refine ⟨kn hf, kn hc, by rw [List.length_map]; exact ln, fun y c e => z.inn c ((z.iff c).mpr ⟨y, sub y c e⟩), fun x y c a b => z.inj x y c (sub x c a) (sub y c b), fun i y e => ?_⟩
  have k := hfree (y, .free) (hfr y (List.mem_of_getElem? e)) rfl
  obtain ⟨c, hc0⟩ := z.has y k
  refine ⟨c, by rw [hcl]; exact clo_has hF (hfr y (List.mem_of_getElem? e)) hc0, fun v ev => ?_⟩
  have e2 : (js.map fun j => X.N[j]?)[i]? = some (some y) := by rw [hjs, List.getElem?_map, e]; rfl
  rw [List.getElem?_map] at e2 ev
  cases ej : js[i]? with
  | none => rw [ej] at e2; cases e2
  | some j =>
    rw [ej] at e2 ev
    exact z.val j y v c (Option.some.inj (show some (X.N[j]?) = some (some y) from e2)) (slotAt_some (Option.some.inj (show some (slotAt σ j) = some (some v) from ev))) k hc0
/-- a state in which the cells of Nf are frozen, and the same state without them -/
structure Thaw (H : Hp) (Nf : Addr → Prop) : Prop where
  all : ∀ b, Nf b → ∃ o v, H b = some (.frz o okT) ∧ o.data = .cell v
theorem Thaw.off {H : Hp} {Nf : Addr → Prop} (t : Thaw H Nf) {b : Addr} {o : HO} (e : H b = some o) (n : ∀ ob, o ≠ .frz ob okT) : ¬ Nf b := fun z => let ⟨ob, _, q, _⟩ := t.all b z; n ob (Option.some.inj (e.symm.trans q))
theorem Thaw.offN {H : Hp} {Nf : Addr → Prop} (t : Thaw H Nf) {b : Addr} (e : H b = none) : ¬ Nf b := fun z => let ⟨_, _, q, _⟩ := t.all b z; by rw [e] at q; cases q
section
variable {P : Program} {w : World} {K : PySem.W.Frag} {mg : Str → Option Value} {base : Heap} {A : Around} {outer : List Env} {s : Shared} {H : Hp} {Nf : Addr → Prop}
theorem Thaw.env (t : Thaw H Nf) (e0 : Env0 P w K mg base A outer s H) : Env0 P w K mg base A outer s (wn H Nf) := by
  have off : ∀ {b : Addr}, H b = none → wn H Nf b = none := fun {b} e => (wn_ni (t.offN e)).trans e
  refine ⟨e0.frames, e0.mod, fun b o e => ⟨(e0.bs b o e).1, off (e0.bs b o e).2⟩, e0.bsz, e0.funs, fun b hb => off (e0.frf b hb), fun a o e => ?_, e0.bare⟩
  obtain ⟨_, e'⟩ := wn_some e
  refine (e0.hok a o e').stay (fun b u _ q => q) (fun b q => ?_) fun b xs q => ?_
  · rw [wn_ni (t.off q fun _ z => nomatch z)]; exact q
  · rw [wn_ni (t.off q fun _ z => nomatch z)]; exact q
/-- the heap behind: the frozen cells as they were -/
theorem Thaw.hok {B : Heap} {H3 : Hp} (t : Thaw H Nf) (hf : ∀ b o, H b = some (.frz o okT) → Nf b → B.get? b = some o ∧ H3 b = none) (hok : HOk P w H3 B) : HOk P w (mixN Nf H H3) B := fun a o e => by
  by_cases c : Nf a
  · rw [mix_in c] at e
    obtain ⟨ob, _, q, _⟩ := t.all a c
    rw [q] at e; cases e
    exact okT_ok (hf a ob q c).1
  · rw [mix_ni c] at e
    have nn : ∀ {b : Addr} {o : HO}, H3 b = some o → ¬ Nf b := fun {b o} q z => by
      obtain ⟨ob, _, q2, _⟩ := t.all b z
      rw [(hf b ob q2 z).2] at q; cases q
    refine (hok a o e).stay (fun b u _ q => q) (fun b q => ?_) fun b xs q => ?_
    · rw [mix_ni (nn q)]; exact q
    · rw [mix_ni (nn q)]; exact q
theorem Thaw.back (t : Thaw H Nf) (e0 : Env0 P w K mg base A outer s H) {Q : VK} {u : Value} {s' : Shared} (h : CE outer P w (wn H Nf) s (fun v H3 => (∀ b, Nf b → H3 b = none) → Q v (mixN Nf H H3)) u s') : CE outer P w H s Q u s' := by
  obtain ⟨v, H3, os, bare, un, hok, r, q⟩ := h
  have off : ∀ {b : Addr}, H b = none → wn H Nf b = none := fun {b} e => (wn_ni (t.offN e)).trans e
  have at_ : ∀ b o, H b = some (.frz o okT) → Nf b → s.heap.get? b = some o := fun b o e _ => (e0.hok b _ e).1
  have nfr : ∀ b, Nf b → b ∉ frs outer := fun b z hb => t.offN (e0.frf b hb) z
  have hf : ∀ b o, H b = some (.frz o okT) → Nf b → s'.heap.get? b = some o ∧ H3 b = none := fun b o e z =>
    ⟨un.keep b o (at_ b o e z) (wn_in z) (nfr b z) (by simp), un.free b o (at_ b o e z) (wn_in z) (by simp)⟩
  refine ⟨v, mixN Nf H H3, os, bare, ⟨fun b o e n h1 h2 => un.keep b o e (off n) h1 h2, fun b o e n h1 h2 => un.slot b o e (off n) h1 h2, fun b o e n h2 => (mix_ni (t.offN n)).trans (un.free b o e (off n) h2), un.there, fun b xs e => ?_, fun b o u e => ?_, fun b ps e => ?_⟩, t.hok hf hok, r, q fun b z => let ⟨ob, _, e, _⟩ := t.all b z; (hf b ob e z).2⟩
  · have c := t.off e fun _ z => nomatch z
    rw [mix_ni c]; exact un.tups b xs ((wn_ni c).trans e)
  · by_cases c : Nf b
    · exact (mix_in c).trans e
    · rw [mix_ni c]; exact un.frzs b o u ((wn_ni c).trans e)
  · have c := t.off e fun _ z => nomatch z
    obtain ⟨more, z⟩ := un.tbls b ps ((wn_ni c).trans e)
    exact ⟨more, by rw [mix_ni c]; exact z⟩
/-- what is let out is let out from the frozen state too -/
def Backs (CX : CXT) (P : Program) (w : World) (K : PySem.W.Frag) (mg : Str → Option Value) (base : Heap) : Prop := ∀ (A : Around) (outer : List Env) (s : Shared) (H : Hp) (Nf : Addr → Prop) (E : XK) (e : Value) (s' : Shared), Thaw H Nf → Env0 P w K mg base A outer s H →
  CX outer (wn H Nf) s (fun c d H3 => (∀ b, Nf b → H3 b = none) → E c d (mixN Nf H H3)) e s' → CX outer H s E e s'
theorem backs0 : Backs L2.CX0 P w K mg base := fun _ _ _ _ _ _ _ _ _ _ z => z
theorem backsX : Backs (L2.CX P w) P w K mg base := fun A outer s H Nf E e s' t e0 ⟨a, B, H3, cls, d, e1, fl, hok, un, na, os, bare, hE⟩ => by
  have off : ∀ {b : Addr}, H b = none → wn H Nf b = none := fun {b} e => (wn_ni (t.offN e)).trans e
  have at_ : ∀ b o, H b = some (.frz o okT) → Nf b → s.heap.get? b = some o := fun b o e _ => (e0.hok b _ e).1
  have nfr : ∀ b, Nf b → b ∉ frs outer := fun b z hb => t.offN (e0.frf b hb) z
  have hf : ∀ b o, H b = some (.frz o okT) → Nf b → B.get? b = some o ∧ H3 b = none := fun b o e z =>
    ⟨un.keep b o (at_ b o e z) (wn_in z) (nfr b z), un.free b o (at_ b o e z) (wn_in z)⟩
  have nA : ¬ Nf a := fun z => by
    obtain ⟨ob, _, q, _⟩ := t.all a z
    have z2 := (hf a ob q z).1
    rw [fl.2.1] at z2; cases z2
  refine ⟨a, B, mixN Nf H H3, cls, d, e1, fl, t.hok hf hok, ⟨fun b o e n h1 => un.keep b o e (off n) h1, un.slot, fun b o e n => (mix_ni (t.offN n)).trans (un.free b o e (off n)), un.there, fun b xs e => ?_, fun b o u e => ?_, fun b ps e => ?_⟩, (mix_ni nA).trans na, os, bare, hE fun b z => let ⟨ob, _, q, _⟩ := t.all b z; (hf b ob q z).2⟩
  · have c := t.off e fun _ z => nomatch z
    rw [mix_ni c]; exact un.tups b xs ((wn_ni c).trans e)
  · by_cases c : Nf b
    · exact (mix_in c).trans e
    · rw [mix_ni c]; exact un.frzs b o u ((wn_ni c).trans e)
  · have c := t.off e fun _ z => nomatch z
    obtain ⟨more, z⟩ := un.tbls b ps ((wn_ni c).trans e)
    exact ⟨more, by rw [mix_ni c]; exact z⟩
end
theorem lam_cal {CX : CXT} {P : Program} {w : World} {K : PySem.W.Frag} {mg : Str → Option Value} {base : Heap} {N ps fr : List Str} {F : LF} {f : Addr} {k : Nat} {sp : Sp} {S S0 : Hp} {ws : List (Option V)} (C : CloK S f F fr ws) (Sc : NScope N ps fr F.scope) (bk : Backs CX P w K mg base)
    (hb : ∀ (pm ctv : Value) (us : List Value), us.length = ps.length → bindArgs (F.fd pm ctv) ⟨us, []⟩ = pure (ps.zip us)) (len : ∀ vs H Q E, sp vs H Q E → vs.length = ps.length) (e0 : Ex S0 S) (n0 : ∀ y c, F.cl.lookup y = some c → S0 c = none)
    (hbody : ∀ (A : Around) (outer : List Env) (s : Shared) (H : Hp) (vs : List V) (Q : VK) (E : XK), Room k (A.deeper (envF F.nf f s.heap.objs.size)) → Ex S H → Ex S0 (wn H (clN F)) → sp vs H Q E →
      ∃ t, PE (ncx CX P w K mg base N F.nf f A outer s (wn H (clN F)) (fun c d H3 => (∀ b, clN F b → H3 b = none) → E c d (mixN (clN F) H H3))) F.body t ∧ t (startF N vs ws) (wn H (clN F)) (fun v H3 => (∀ b, clN F b → H3 b = none) → Q v (mixN (clN F) H H3))) :
    Cal P w K mg base CX (k + 1) f sp S := by
  refine ⟨⟨F, C.fn⟩, fun A outer s H us vs Q E eS hr e1 r hsp => ?_⟩
  have C' := C.mono eS
  have t : Thaw H (clN F) := ⟨fun b ⟨y, z⟩ => C'.all y b z⟩
  have hl := len _ _ _ _ hsp
  have lim : s.heap.NoLimit := e1.mod.nolimit.keeps fun b o e => (e1.bs b o e).1
  obtain ⟨od, sl, pm, ctv, ho⟩ := lamO_at e1.hok C'.fn
  refine PySem.W.kla_callFunE hr.depth ho rfl Sc.co Sc.gen rfl (codeO_at e1.hok C'.co) ?_
  rw [hb pm ctv us (by rw [← r.length]; exact hl)]
  refine wpAny_pure (wpAny_newFunctionEnv Sc.nocell (fun ⟨n, _⟩ hy => Sc.par n (List.of_mem_zip hy).1) (fun h₁ hns hsb => ⟨lim.fresh _ hsb, ?_⟩) Sc.kind)
  show codeAny _ _ (.expr F.body (envF F.nf f s.heap.objs.size)) _ _
  have kp : ∀ b o, s.heap.get? b = some o → h₁.get? b = some o := fun b o e => hsb.extBut b o (Nat.ne_of_lt (Heap.lt_size e)) (Heap.get?_push_of_some _ e)
  have x0 : Ex S0 (wn H (clN F)) := fun b o e => by
    rw [wn_ni fun ⟨y, z⟩ => by rw [n0 y b z] at e; cases e]
    exact eS _ _ (e0 _ _ e)
  obtain ⟨tb, ht, hq⟩ := hbody A outer s H vs Q E (hr.deeper _) eS x0 hsp
  have cells : CellsAt F.cl fr ws s.heap (wn H (clN F)) := ⟨C'.len, fun y c e => ⟨wn_in ⟨y, e⟩, let ⟨o, v, q1, q2⟩ := C'.all y c e; ⟨v, o, (e1.hok c _ q1).1, q2⟩⟩, C'.inj, fun i y e => let ⟨c, q1, q2⟩ := C'.has i y e; ⟨c, q1, fun v hv => let ⟨o, u, q3, q4, q5⟩ := q2 v hv; ⟨u, q5, o, (e1.hok c _ q3).1, q4⟩⟩⟩
  have I : Inv (ncx CX P w K mg base N F.nf f A outer s (wn H (clN F)) (fun c d H3 => (∀ b, clN F b → H3 b = none) → E c d (mixN (clN F) H H3))) [] (startF N vs ws) (wn H (clN F)) { s with heap := h₁, toks := s.toks + (ps.zip us).length } := inv_startN (F := F.nf) Sc hr.hd (t.env e1) hl r cells hns kp
  refine PySem.W.kla_codeExpr (wpAny_mono (ht.run [] _ _ _ _ I hq) (fun v s' hv => ?_) fun e s' he => wpAny_mono he (fun _ s'' z => bk A outer s H _ E e s'' t e1 z) fun e' s'' z => bk A outer s H _ E e' s'' t e1 z)
  obtain ⟨v', H', J, rv, q⟩ := hv
  exact t.back e1 ⟨v', H', J.os, J.bare, J.base, J.hok, rv, q⟩
end Sw
namespace Sw
open PySem PySem.Spec PyProof.Rows L2 Evl LamX NdefX
/-- a def whose code object stands at c -/
structure FunC (K : PySem.W.Frag) (x qual : Str) (st : Stmt) (f : Addr) (fd : FuncData) (c : Addr) : Prop where
  ex : ∃ (oc : Value) (od : Option Addr) (kV doc pm : Value) (an : Option Addr) (ct : Value) (osl : Array (Option Value)), fd = PySem.W.fnOf x qual (L2.defArgs st) (L2.defBody st) (L2.defScope st) .none kV doc pm an (.ref c) ct ∧ K.lookup f = some ⟨oc, od, .func fd, osl⟩ ∧ PySem.W.codeIn K (.ref c) qual = true
theorem FunC.ok {P : Program} {w : World} {K : PySem.W.Frag} {mg : Str → Option Value} {base : Heap} {x qual : Str} {st : Stmt} {f : Addr} {fd : FuncData} {c : Addr} {N ps : List Str} {k : Nat} {sp : Sp} (F : FunC K x qual st f fd c) (S : FnScope N ps (L2.defScope st)) (len : ∀ vs H Q E, sp vs H Q E → vs.length = ps.length)
    (hbody : ∀ (A : Around) (outer : List Env) (s : Shared) (H : Hp) (vs : List V) (Q : VK) (E : XK), Room k (A.deeper (envOfC qual (L2.defScope st) s.heap.objs.size f (.ref c))) → sp vs H Q E →
      ∃ t, PSs (cxOf L2.CX0 P w K mg base N qual (L2.defScope st) f (.ref c) A outer s H E).nox (L2.defBody st) t ∧ t { nx := fun _ H' => Q .non H', rt := Q } (L2.start N vs) H) : FnOk P w K mg base L2.CX0 (k + 1) f fd ps sp := by
  obtain ⟨oc, od, kV, doc, pm, an, ct, osl, rfl, lk, hcd⟩ := F.ex
  exact fn_of lk hcd S len fun A outer s H vs Q E hr hsp => let ⟨t, h, q⟩ := hbody A outer s H vs Q E hr hsp; ⟨t, h.nox, q⟩
theorem funC_mk {K : PySem.W.Frag} {x qual : Str} {st : Stmt} {f c : Addr} {oc : Value} {od an : Option Addr} {osl : Array (Option Value)} {kV doc pm ct : Value} (l : K.lookup f = some ⟨oc, od, .func (PySem.W.fnOf x qual (L2.defArgs st) (L2.defBody st) (L2.defScope st) .none kV doc pm an (.ref c) ct), osl⟩)
    (h : PySem.W.codeIn K (.ref c) qual = true) : FunC K x qual st f (PySem.W.fnOf x qual (L2.defArgs st) (L2.defBody st) (L2.defScope st) .none kV doc pm an (.ref c) ct) c := ⟨oc, od, kV, doc, pm, an, ct, osl, rfl, l, h⟩
/-! ### a heap without its tables -/
def nt (H : Hp) : Hp := fun b => match H b with
  | some (.tbl _) => none
  | o => o
theorem nt_of {H : Hp} {b : Addr} {o : HO} (e : H b = some o) (n : ∀ ps, o ≠ .tbl ps) : nt H b = some o := by
  unfold nt
  rw [e]
  cases o <;> first | rfl | exact absurd rfl (n _)
theorem nt_some {H : Hp} {b : Addr} {o : HO} (e : nt H b = some o) : H b = some o ∧ ∀ ps, o ≠ .tbl ps := by
  unfold nt at e
  cases q : H b with
  | none => rw [q] at e; cases e
  | some u =>
    rw [q] at e
    cases u <;> first | (cases e; exact ⟨rfl, fun _ z => nomatch z⟩) | cases e
theorem nt_ex {H : Hp} : Ex (nt H) H := fun _ _ e => (nt_some e).1
theorem extN_nt {H H1 : Hp} (e : ExtN H H1) : Ex (nt H) (nt H1) := fun b o h => nt_of (e b o (nt_some h).1 (nt_some h).2) (nt_some h).2
theorem extN_of {H H1 : Hp} (e : Ex H H1) : ExtN H H1 := fun b o h _ => e b o h
theorem extN_wn {H H1 : Hp} {N : Addr → Prop} (e : ExtN H H1) : ExtN (wn H N) (wn H1 N) := fun b o h n => by
  obtain ⟨q1, q2⟩ := wn_some h
  rw [wn_ni q1]; exact e b o q2 n
theorem nt_t {K : PySem.W.Frag} {H : Hp} {a : Addr} {xs : List V} (h : SqT K H a xs) : SqT K (nt H) a xs := by
  rcases h with (h | ⟨u, h⟩) | h
  · exact .inl (.inl (nt_of h fun _ z => nomatch z))
  · exact .inl (.inr ⟨u, nt_of h fun _ z => nomatch z⟩)
  · exact .inr h
theorem nt_l {K : PySem.W.Frag} {H : Hp} {a : Addr} {xs : List V} (h : SqL K H a xs) : SqL K (nt H) a xs := by
  rcases h with (h | ⟨u, h⟩) | h
  · exact .inl (.inl (nt_of h fun _ z => nomatch z))
  · exact .inl (.inr ⟨u, nt_of h fun _ z => nomatch z⟩)
  · exact .inr h
theorem tabsN_ext {T : List NTab} {H H' : Hp} (t : TabsN T H) (e : Ex H H') : TabsN T H' := t.ext e
end Sw
namespace Sw
open PySem PySem.Spec PyProof.Rows L2 Evl LamX NdefX
/-! ### lambdas with one parameter that has a number as its default -/
theorem evalD {M : Model} {A : Around} {E Q : Value → Shared → Prop} {s : Shared} {params : Arguments} {body e : Expr} {scope : Scope} {pos : Pos} {env : Env} (hdef : defaultsOf params env = ([eval e env], []))
    (h : wpAny M A (eval e env) (fun v s1 => wpAny M A (makeFunction "<lambda>" (env.qual ++ "<lambda>") params (.expr body) scope env [v] [] [] pos pos.line) Q E s1) E s) : wpAny M A (eval (.Lambda params body scope pos) env) Q E s := by
  rw [arm_eval_Lambda, hdef]
  show wpAny M A (do let dv ← evalAll [eval e env]; let kdv ← holding dv (evalAllOpt []); makeFunction "<lambda>" (env.qual ++ "<lambda>") params (.expr body) scope env dv kdv [] pos pos.line) Q E s
  refine wpAny_bind ?_
  show wpAny M A (eval e env >>= fun v => holding [v] (evalAll []) >>= fun r => pure (v :: r)) _ E s
  refine wpAny_bind (wpAny_mono h (fun v s1 h1 => ?_) fun _ _ z => z)
  exact wpAny_bind (wpAny_holding (wpAny_pure (wpAny_pure (wpAny_bind (wpAny_holding (wpAny_pure h1))))))
section
variable {X : Cx} {pins : List (Addr × Obj)} {σ : L2.St} {H : Hp} {s : Shared}
theorem lam_newD {T : List NTab} {nm : Nat → Nat → Str} {c P : Addr} {params : Arguments} {body e : Expr} {scope : Scope} {pos : Pos} {i : Int} {E Q : Value → Shared → Prop} (I : Inv X pins σ H s) (TB : TabB X.base X.mg c P) (hcode : X.env.code = .ref c) (hm : (P, nm) ∈ T)
    (hn : nm pos.line pos.col = X.env.qual ++ "<lambda>") (hu : ∀ p ∈ T, p.1 = P → p.2 = nm) (hT : TabsN T H) (he : PE X e (tC (.int i))) (hE : E = X.xe) (hdef : defaultsOf params X.env = ([eval e X.env], [])) (hfree : ∀ y ∈ scope.names, y.2 = .free → ∃ c, X.env.cells.lookup y.1 = some c)
    (fin : ∀ (f c' t : Addr) (H1 : Hp) (s' : Shared), Inv X pins σ H1 s' → ExtN H H1 → (∀ b, H1 b = Option.none → H b = Option.none) → TabsN T H1 → H f = none → H1 f = some (LamO f ⟨X.env.qual ++ "<lambda>", params, body, scope, cloFrom X.env.cells scope.names [], c', .ref t⟩) → H1 c' = some (CodeO c' (X.env.qual ++ "<lambda>")) → H1 t = some (.tup [.int i]) → Q (.ref f) s') :
    wpAny (model X.prog X.w) X.A (eval (.Lambda params body scope pos) X.env) Q E s := by
  subst hE
  refine evalD hdef (thn (he.run pins s σ H (fun v H1 => v = .int i ∧ H1 = H) I ⟨rfl, rfl⟩) fun u s1 ⟨v, H1, I1, r, ev, eH⟩ => ?_)
  subst ev eH
  obtain ⟨tk, rfl⟩ := (show ∃ t, u = Value.int i t from r)
  rw [makeFunction_eq]
  simp only [List.zip_nil_right, List.filterMap_nil, List.isEmpty_nil, List.isEmpty_cons, Bool.false_eq_true, if_false, if_true, pure_bind]
  refine wpAny_bind (wpAny_newTextTuple ?_)
  have nT : H1 s1.heap.objs.size = none := I1.hok.fresh (Nat.le_refl _)
  have I2 := I1.laid (h' := s1.heap.push ({ cls := .type "tuple", data := .seq #[Value.int i tk] } : Obj)) (o := .tup [.int i]) (t' := s1.toks) (fun b u e => Heap.get?_push_of_some _ e) (Nat.le_refl _) ⟨by show 1 ≤ sizeLine; decide, [Value.int i tk], .cons ⟨tk, rfl⟩ .nil, ⟨_, Heap.get?_push_size _ rfl, rfl, _, rfl⟩⟩
  exact lam_tail (dv := .ref s1.heap.objs.size) I2 TB hcode hm hn hu (hT.ext fun b o e => (upd_ne (ne_of_none e nT)).trans e) hfree fun f c' H3 s' I3 e1 e2 e3 e4 e5 e6 =>
    fin f c' s1.heap.objs.size H3 s' I3 (fun b o hb n => e1 b o ((upd_ne (ne_of_none hb nT)).trans hb) n) (fun b z => upd_none (e2 b z)) e3 (upd_none e4) e5 e6 (e1 _ _ upd_same fun _ z => nomatch z)
end
/-- the reading of such a lambda -/
def tLamD (T : List NTab) (mk : Addr → Addr → LF) (i : Int) : TE := fun σ H Q => TabsN T H ∧ ∀ (f c' t : Addr) (H1 : Hp), ExtN H H1 → (∀ b, H1 b = Option.none → H b = Option.none) → TabsN T H1 → H f = none → H1 f = some (LamO f (mk c' t)) → H1 c' = some (CodeO c' (mk c' t).qual) → H1 t = some (.tup [.int i]) → Q (.ref f) H1
theorem pe_lamD {X : Cx} {T : List NTab} {nm : Nat → Nat → Str} {c P : Addr} {params : Arguments} {body e : Expr} {scope : Scope} {pos : Pos} {i : Int} (TB : TabB X.base X.mg c P) (hcode : X.env.code = .ref c) (hm : (P, nm) ∈ T) (hn : nm pos.line pos.col = X.env.qual ++ "<lambda>") (hu : ∀ p ∈ T, p.1 = P → p.2 = nm) (he : PE X e (tC (.int i)))
    (hdef : defaultsOf params X.env = ([eval e X.env], [])) (hfree : ∀ y ∈ scope.names, y.2 = .free → X.env.scope.names.lookup y.1 = some .cell ∨ X.env.scope.names.lookup y.1 = some .free) :
    PE X (.Lambda params body scope pos) (tLamD T (fun c' t => ⟨X.env.qual ++ "<lambda>", params, body, scope, cloFrom X.env.cells scope.names [], c', .ref t⟩) i) := by
  refine ⟨fun pins s σ H Q I ⟨hT, h⟩ => ?_⟩
  exact lam_newD I TB hcode hm hn hu hT he rfl hdef (fun y hy e => (hfree y hy e).elim (fun z => I.ok.has _ (.inl z)) fun z => I.ok.has _ (.inr z)) fun f c' t H1 s' I1 e1 e2 e3 e4 e5 e6 e7 => ⟨.ref f, H1, I1, rfl, h f c' t H1 e1 e2 e3 e4 e5 e6 e7⟩
theorem lam_calD {CX : CXT} {P : Program} {w : World} {K : PySem.W.Frag} {mg : Str → Option Value} {base : Heap} {N fr : List Str} {p : Str} {F : LF} {f t : Addr} {i : Int} {k : Nat} {sp : Sp} {S S0 : Hp} {ws : List (Option V)} (C : CloK S f F fr ws) (ht : S t = some (.tup [.int i])) (Sc : NScope N [p] fr F.scope) (bk : Backs CX P w K mg base)
    (hb : ∀ (pm ctv u : Value) (s : Shared) (o : Obj) (n : Nat), s.heap.get? t = some o → o.data = .seq #[u] n → BindsTo s (F.fd pm ctv) ⟨[], []⟩ [(p, u)]) (len : ∀ vs H Q E, sp vs H Q E → vs = []) (e0 : Ex S0 S) (n0 : ∀ y c, F.cl.lookup y = some c → S0 c = none)
    (hbody : ∀ (A : Around) (outer : List Env) (s : Shared) (H : Hp) (Q : VK) (E : XK), Room k (A.deeper (envF F.nf f s.heap.objs.size)) → Ex S H → Ex S0 (wn H (clN F)) → sp [] H Q E →
      ∃ t, PE (ncx CX P w K mg base N F.nf f A outer s (wn H (clN F)) (fun c d H3 => (∀ b, clN F b → H3 b = none) → E c d (mixN (clN F) H H3))) F.body t ∧ t (startF N [.int i] ws) (wn H (clN F)) (fun v H3 => (∀ b, clN F b → H3 b = none) → Q v (mixN (clN F) H H3))) :
    Cal P w K mg base CX (k + 1) f sp S := by
  refine ⟨⟨F, C.fn⟩, fun A outer s H us vs Q E eS hr e1 r hsp => ?_⟩
  obtain rfl := len _ _ _ _ hsp
  cases r
  have C' := C.mono eS
  have th : Thaw H (clN F) := ⟨fun b ⟨y, z⟩ => C'.all y b z⟩
  have lim : s.heap.NoLimit := e1.mod.nolimit.keeps fun b o e => (e1.bs b o e).1
  obtain ⟨od, sl, pm, ctv, ho⟩ := lamO_at e1.hok C'.fn
  obtain ⟨_, its, ri, o, ho2, hc2, n, hd2⟩ := (show ObjOk P w H s.heap t (.tup [.int i]) from e1.hok t _ (eS _ _ ht))
  cases ri with | cons ru rn =>
  cases rn
  rename_i u
  refine PySem.W.kla_callFunE hr.depth ho rfl Sc.co Sc.gen rfl (codeO_at e1.hok C'.co) (hb pm ctv u s o n ho2 hd2 _ _ _ _ ?_)
  refine wpAny_newFunctionEnv Sc.nocell (fun ⟨n, _⟩ hy => Sc.par n (by have z := List.mem_singleton.mp hy; rw [(Prod.mk.inj z).1]; exact List.mem_singleton.mpr rfl)) (fun h₁ hns hsb => ⟨lim.fresh _ hsb, ?_⟩) Sc.kind
  show codeAny _ _ (.expr F.body (envF F.nf f s.heap.objs.size)) _ _
  have kp : ∀ b o, s.heap.get? b = some o → h₁.get? b = some o := fun b o e => hsb.extBut b o (Nat.ne_of_lt (Heap.lt_size e)) (Heap.get?_push_of_some _ e)
  have x0 : Ex S0 (wn H (clN F)) := fun b o e => by
    rw [wn_ni fun ⟨y, z⟩ => by rw [n0 y b z] at e; cases e]
    exact eS _ _ (e0 _ _ e)
  obtain ⟨tb, ht, hq⟩ := hbody A outer s H Q E (hr.deeper _) eS x0 hsp
  have cells : CellsAt F.cl fr ws s.heap (wn H (clN F)) := ⟨C'.len, fun y c e => ⟨wn_in ⟨y, e⟩, let ⟨o, v, q1, q2⟩ := C'.all y c e; ⟨v, o, (e1.hok c _ q1).1, q2⟩⟩, C'.inj, fun i y e => let ⟨c, q1, q2⟩ := C'.has i y e; ⟨c, q1, fun v hv => let ⟨o, u, q3, q4, q5⟩ := q2 v hv; ⟨u, q5, o, (e1.hok c _ q3).1, q4⟩⟩⟩
  have I : Inv (ncx CX P w K mg base N F.nf f A outer s (wn H (clN F)) (fun c d H3 => (∀ b, clN F b → H3 b = none) → E c d (mixN (clN F) H H3))) [] (startF N [.int i] ws) (wn H (clN F)) { s with heap := h₁, toks := s.toks + ([p].zip [u]).length } := inv_startN (F := F.nf) Sc hr.hd (th.env e1) rfl (.cons ru .nil) cells hns kp
  refine PySem.W.kla_codeExpr (wpAny_mono (ht.run [] _ _ _ _ I hq) (fun v s' hv => ?_) fun e s' he => wpAny_mono he (fun _ s'' z => bk A outer s H _ E e s'' th e1 z) fun e' s'' z => bk A outer s H _ E e' s'' th e1 z)
  obtain ⟨v', H', J, rv, q⟩ := hv
  exact th.back e1 ⟨v', H', J.os, J.bare, J.base, J.hok, rv, q⟩
end Sw
namespace Sw
open PySem PySem.Spec PyProof.Rows L2 Evl LamX NdefX
/-! ### a comprehension in which the def's cells are known: frozen from its start to its end -/
/-- what is not frozen any more -/
theorem un_thaw {fr ex : List Addr} {H Hz H5 : Hp} {g g' : Heap} {N : Addr → Prop} (u : Un fr ex Hz H5 g g') (out : ∀ b, ¬ N b → Hz b = H b) (off : ∀ b, N b → H b = none) (inn : ∀ b, N b → ∃ o, g.get? b = some o ∧ Hz b = some (.frz o okT)) (at_ : ∀ b o, H5 b = some (.frz o okT) → g'.get? b = some o) : Un fr ex H (wn H5 N) g g' := by
  have cell : ∀ {b : Addr} {o : Obj}, N b → g.get? b = some o → H5 b = some (.frz o okT) ∧ g'.get? b = some o := fun {b o} n e => by
    obtain ⟨o', e1, e2⟩ := inn b n
    rw [e] at e1; cases e1
    have z := u.frzs b o okT e2
    exact ⟨z, at_ b o z⟩
  have zn : ∀ {b : Addr}, ¬ N b → H b = none → Hz b = none := fun n e => (out _ n).trans e
  refine ⟨?_, ?_, ?_, u.there, ?_, ?_, ?_⟩
  · intro b o e n h1 h2
    by_cases c : N b
    · exact (cell c e).2
    · exact u.keep b o e (zn c n) h1 h2
  · intro b o e n h1 h2
    by_cases c : N b
    · exact ⟨o.slots, (cell c e).2⟩
    · exact u.slot b o e (zn c n) h1 h2
  · intro b o e n h2
    by_cases c : N b
    · exact wn_in c
    · exact (wn_ni c).trans (u.free b o e (zn c n) h2)
  · intro b xs e
    have c : ¬ N b := fun z => by rw [off b z] at e; cases e
    exact (wn_ni c).trans (u.tups b xs ((out b c).trans e))
  · intro b o v e
    have c : ¬ N b := fun z => by rw [off b z] at e; cases e
    exact (wn_ni c).trans (u.frzs b o v ((out b c).trans e))
  · intro b ps e
    have c : ¬ N b := fun z => by rw [off b z] at e; cases e
    obtain ⟨more, z⟩ := u.tbls b ps ((out b c).trans e)
    exact ⟨more, (wn_ni c).trans z⟩
theorem hok_thaw {P : Program} {w : World} {H5 : Hp} {g : Heap} {N : Addr → Prop} (k : HOk P w H5 g) (fz : ∀ b, N b → ∃ o, H5 b = some (.frz o okT)) : HOk P w (wn H5 N) g := fun a o e => by
  obtain ⟨c, e'⟩ := wn_some e
  have nc : ∀ {b : Addr} {u : HO}, H5 b = some u → (∀ ob, u ≠ .frz ob okT) → ¬ N b := fun {b u} q ne n => by
    obtain ⟨ob, e1⟩ := fz b n
    rw [e1] at q
    exact ne ob (Option.some.inj q).symm
  refine (k a o e').stay (fun _ _ _ q => q) (fun b q => ?_) fun b xs q => ?_
  · rw [wn_ni (nc q fun _ z => nomatch z)]; exact q
  · rw [wn_ni (nc q fun _ z => nomatch z)]; exact q
/-- a block's start with more known -/
theorem blk_frz {X : Cx} {t3 t4 : Shared} {H3 Hz : Hp} {scope : Scope} {ce : Env} {fp : List Addr} {σ' : L2.St} {N : Addr → Prop} (J : Inv (X.blk t3 H3 scope ce fp) [] σ' H3 t4) (kp : ∀ b u, t3.heap.get? b = some u → t4.heap.get? b = some u) (out : ∀ b, ¬ N b → Hz b = H3 b) (off : ∀ b, N b → H3 b = none)
    (inn : ∀ b, N b → ∃ o, t3.heap.get? b = some o ∧ Hz b = some (.frz o okT)) (nb : ∀ b, N b → X.base.get? b = none) (ns : ∀ b, N b → b ∉ frs X.stack) (nl : ∀ b, N b → b ≠ ce.locals) (nc : ∀ y b, ce.cells.lookup y = some b → ¬ N b) : Inv (X.blk t3 Hz scope ce fp) [] σ' Hz t4 := by
  have k := J.ok
  refine ⟨⟨k.mod, k.kind, k.glob, k.blt, k.above, k.inj, k.has, k.cab, k.hd, k.frames, k.stk, k.exf, fun b o e => ⟨(k.bs b o e).1, ?_⟩, k.bsz, k.noex, k.exfs, k.funs, fun b e => ?_⟩, J.os, J.bare, Un.kept kp, J.loc, J.cell, ?_, fun y c e => ?_, fun p hp => absurd (show p ∈ ([] : List (Addr × Obj)) ++ [] from hp) (by simp), ?_, J.len⟩
  · have n : ¬ N b := fun z => by have q := nb b z; rw [e] at q; cases q
    exact (out b n).trans (k.bs b o e).2
  · have n : ¬ N b := fun z => ns b z e
    exact (out b n).trans (k.frf b e)
  · have n : ¬ N ce.locals := fun z => nl _ z rfl
    exact (out _ n).trans J.free
  · exact (out c (nc y c e)).trans (J.freeC y c e)
  · intro a o e
    by_cases n : N a
    · obtain ⟨ob, e1, e2⟩ := inn a n
      rw [e2] at e; cases e
      exact okT_ok (kp _ _ e1)
    · rw [out a n] at e
      have t : ∀ {b : Addr} {u : HO}, H3 b = some u → Hz b = some u := fun {b u} q => (out b fun z => by rw [off b z] at q; cases q).trans q
      exact (J.hok a o e).stay (fun _ _ _ q => q) (fun b q => t q) fun b xs q => t q
/-- its reading -/
def tLcF (X : Cx) (wi : TI) (g : TG) (te : TE) (vs : List Nat) : TE := fun σ H Q => wi σ H fun J H1 => ∀ Hz N, Frz X σ H1 Hz N → ∀ D, Hz D = none → ∃ W : Nat → Nat → Hp → Prop, (∃ m, W 0 m (upd Hz D (.lst []))) ∧ ∀ i m H, W i m H →
  (J.stop i H ∧ Q (.ref D) (wn H N)) ∨ (J.go i H ∧ ∃ Nx : Hp → Prop, (∀ H', Nx H' → ∃ m', m' < m ∧ W (i + 1) m' H') ∧ ∀ x H', J.yld i H x H' → g x (wipe σ vs) H' fun σ2 H2 => wipe σ2 vs = wipe σ vs ∧
    te σ2 H2 fun y H4 => ∃ acc, H4 D = some (.lst acc) ∧ acc.length < sizeLine ∧ Nx (upd H4 D (.lst (acc ++ [y]))))
section
variable {X : Cx}
theorem lcF_core {pn : List (Addr × Obj)} {t : Shared} {σ : L2.St} {H : Hp} {Q : VK} {el tg itr : Expr} {sc : Scope} {own : List (Str × Nat)} {po po' : Pos} {wi : TI} {g : TG} {te : TE} {Qf : Value → Shared → Prop} (calm : X.calm = true) (hfn : ∀ y, X.fn y = true) (J : Inv X pn σ H t) (pi : PI X tg itr wi) (ok : BlkOk X.N X.env.scope sc own) (nodup : X.N.Nodup) (nf : ∀ y ∈ sc.names, y.2 ≠ .free)
    (pg : ∀ (t : Shared) (H : Hp) (C : Addr) (cl : List (Str × Addr)) (fp : List Addr), PG (X.blk t H sc (compEnvC sc cl C X.env) fp) tg g) (pe : ∀ (t : Shared) (H : Hp) (C : Addr) (cl : List (Str × Addr)) (fp : List Addr), PE (X.blk t H sc (compEnvC sc cl C X.env) fp) el te) (fo : ∀ x, foldedSetIterable itr X.env x = pure x)
    (rd : tLcF X wi g te (own.map (·.2)) σ H Q) (fin : ∀ D C t' m H', Inv X pn σ H' t' → Q (.ref D) H' → t'.heap.Ns C m → FpOk X pn H' C → compPost (model X.prog X.w) X.A X.xe none Qf (.ref D) C (.ok .next) t') :
    wpAny (model X.prog X.w) X.A (comprehension (.ListComp el [⟨tg, itr, [], 0⟩] sc po) sc X.env po' (newList []) false (eval itr X.env) none) Qf X.xe t := by
  refine wpAny_comprehension_free (use := none) rfl fo (closure_ok fun y hy e => absurd e (nf y hy)) ok.kind (fun y hy e => by rw [ok.uniq y hy, e]) (thn (pi.run pn t σ H _ J rd) fun xv t1 hx => thn hx fun iv t2 h2 => ?_)
  obtain ⟨it, fp, tn, Jt, H2, e, J2, T, st2, f2, q⟩ := h2
  subst e
  obtain ⟨Hz, N, fz, e0, _⟩ := frz_env J2 hfn
  refine wpAny_newObj_type (newEnv_comp ?_) (Nat.zero_le _)
  generalize hD : t2.heap.objs.size = D
  have Dn : Hz D = none := e0.hok.fresh (Nat.le_of_eq hD)
  have Dn2 : H2 D = none := J2.hok.fresh (Nat.le_of_eq hD)
  obtain ⟨W, ⟨m0, w0⟩, turn⟩ := q Hz N fz D Dn
  -- the cells: where they stand
  have cellAt : ∀ b, N b → ∃ o, t2.heap.get? b = some o ∧ Hz b = some (.frz o okT) := fun b n => by
    obtain ⟨o, v, e1, _⟩ := fz.inn b n
    exact ⟨o, (e0.hok b _ e1).1, e1⟩
  have nlt : ∀ b, N b → b < t2.heap.objs.size := fun b n => let ⟨o, e1, _⟩ := cellAt b n; Heap.lt_size e1
  have nge : ∀ b, N b → X.s_0.heap.objs.size ≤ b := fun b n => let ⟨y, e1⟩ := (fz.iff b).mp n; J2.ok.cab y b (hfn y) e1
  generalize ht3 : ({ t2 with heap := t2.heap.push { cls := .type "list", data := .seq ([] : List Value).toArray } } : Shared) = t3
  have hp3 : t3.heap = t2.heap.push { cls := .type "list", data := .seq ([] : List Value).toArray } := by rw [← ht3]
  have k23 : ∀ b u, t2.heap.get? b = some u → t3.heap.get? b = some u := fun b u e => by rw [hp3]; exact Heap.get?_push_of_some _ e
  have J3 : Inv X pn σ (upd H2 D (.lst [])) t3 := by
    rw [← ht3]
    refine J2.laid (t' := t2.toks) (fun b u e => Heap.get?_push_of_some _ e) (Nat.le_of_eq hD) ⟨Nat.zero_le _, [], 0, .nil, ?_⟩
    rw [← hD]; exact Heap.get?_push_size _ rfl
  have neD : ∀ b, b < t2.heap.objs.size → b ≠ D := fun b z => by rw [← hD]; exact Nat.ne_of_lt z
  have lt2 : ∀ b ∈ fp, b < t2.heap.objs.size := fun b hb => let ⟨o, e, _⟩ := T.obj _ _ st2 b hb; Heap.lt_size e
  have sz3 : t3.heap.objs.size = t2.heap.objs.size + 1 := by rw [hp3, Heap.size_push]
  have fp3 : ∀ b ∈ fp, FpOk X pn (upd H2 D (.lst [])) b ∧ b < t3.heap.objs.size := fun b hb => by
    have z := lt2 b hb
    exact ⟨⟨(upd_ne (neD b z)).trans (f2 b hb).1, (f2 b hb).2⟩, by rw [sz3]; exact Nat.lt_succ_of_lt z⟩
  have st3 : tn 0 t3.heap := T.keep _ _ _ st2 fun b _ u e => k23 b u e
  have J4 := block_start J3 ok nodup fp3
  generalize hcl : cellsFrom (t3.heap.objs.size + 1) sc.names (cloFrom X.env.cells sc.names []) = cls at J4 ⊢
  have k34 : ∀ b u, t3.heap.get? b = some u → (pushCells (t3.heap.push { cls := .type "dict", data := .dict #[] }) sc.names).get? b = some u := fun b u e => pushCells_keeps _ _ _ _ (Heap.get?_push_of_some _ e)
  have cnew : ∀ y c, (compEnvC sc cls t3.heap.objs.size X.env).cells.lookup y = some c → ¬ N c := fun y c e n => by
    have e : cls.lookup y = some c := e
    rw [← hcl, ← Heap.size_push t3.heap { cls := .type "dict", data := .dict #[] }] at e
    rcases cells_mem (PySem.mem_of_lookup e) with hm | ⟨_, z, _⟩
    · rcases cloFrom_mem hm with hm | ⟨z, _⟩
      · cases hm
      · exact nf _ z rfl
    · rw [Heap.size_push, sz3] at z
      exact absurd (Nat.lt_of_lt_of_le (nlt c n) (Nat.le_trans (Nat.le_trans (Nat.le_succ _) (Nat.le_succ _)) z)) (Nat.lt_irrefl _)
  have J5 := blk_frz (Hz := upd Hz D (.lst [])) (N := N) J4 k34 (fun b n => by
      by_cases z : b = D
      · rw [z, upd_same, upd_same]
      · rw [upd_ne z, upd_ne z]; exact fz.out b n) (fun b n => (upd_ne (neD b (nlt b n))).trans (fz.off b n))
    (fun b n => let ⟨o, a1, a2⟩ := cellAt b n; ⟨o, k23 _ _ a1, (upd_ne (neD b (nlt b n))).trans a2⟩)
    (fun b n => by
      cases z : X.base.get? b with
      | none => rfl
      | some u => exact absurd (Nat.lt_of_lt_of_le (Heap.lt_size z) (Nat.le_trans J2.ok.bsz (nge b n))) (Nat.lt_irrefl _))
    (fun b n z => by
      rcases List.mem_cons.mp (J2.stkSub b z) with z | z
      · obtain ⟨y, e1⟩ := (fz.iff b).mp n
        exact J2.cne y b e1 z
      · obtain ⟨_, o, ho, _⟩ := J2.ok.funs.mem z
        exact absurd (Nat.lt_of_lt_of_le (Heap.lt_size ho) (nge b n)) (Nat.lt_irrefl _))
    (fun b n z => by have q1 : b = t3.heap.objs.size := z; exact absurd q1 (Nat.ne_of_lt (by rw [sz3]; exact Nat.lt_succ_of_lt (nlt b n)))) cnew
  have nfz : ∀ b ∈ fp, (upd Hz D (.lst [])) b = none := fun b hb => by
    have z := lt2 b hb
    rw [upd_ne (neD b z), fz.out b fun n => by obtain ⟨y, e1⟩ := (fz.iff b).mp n; exact (f2 b hb).2.2.2.2.1 y b e1 rfl]
    exact (f2 b hb).1
  show codeAny _ _ (.compStart (.ListComp el [⟨tg, itr, [], 0⟩] sc po) 0 (.ref it) (.ref D) (compEnvC sc cls t3.heap.objs.size X.env)) (compPost (model X.prog X.w) X.A X.xe none Qf (.ref D) t3.heap.objs.size) { t3 with heap := pushCells (t3.heap.push { cls := .type "dict", data := .dict #[] }) sc.names }
  have pg' := pg t3 (upd Hz D (.lst [])) t3.heap.objs.size cls fp
  have pe' := pe t3 (upd Hz D (.lst [])) t3.heap.objs.size cls fp
  generalize hce : compEnvC sc cls t3.heap.objs.size X.env = ce at J5 pg' pe' ⊢
  have cL : ce.locals = t3.heap.objs.size := by subst hce; rfl
  generalize hz3 : upd Hz D (.lst []) = Hz3 at J5 pg' pe' w0 nfz
  have hz3N : ∀ b, ¬ N b → Hz3 b = upd H2 D (.lst []) b := fun b n => by
    rw [← hz3]
    by_cases z : b = D
    · rw [z, upd_same, upd_same]
    · rw [upd_ne z, upd_ne z]; exact fz.out b n
  have hz3I : ∀ b, N b → ∃ o, t3.heap.get? b = some o ∧ Hz3 b = some (.frz o okT) := fun b n => by
    obtain ⟨o, a1, a2⟩ := cellAt b n
    exact ⟨o, k23 _ _ a1, by rw [← hz3]; exact (upd_ne (neD b (nlt b n))).trans a2⟩
  generalize ht4 : ({ t3 with heap := pushCells (t3.heap.push { cls := .type "dict", data := .dict #[] }) sc.names } : Shared) = t4 at J5 ⊢
  have st4 : tn 0 t4.heap := T.keep _ _ _ st3 fun b _ u e => by rw [← ht4]; exact k34 b u e
  have stood : ∀ {σ' : L2.St} {H' : Hp} {t' : Shared}, Inv (X.blk t3 Hz3 sc ce fp) [] σ' H' t' → (∀ b ∈ fp, H' b = none) → ∀ b ∈ fp, FpOk (X.blk t3 Hz3 sc ce fp) [] H' b := fun {σ' H' t'} K n b hb =>
    ⟨n b hb, (K.ok.exf b hb).1, K.ok.exfs b hb, .inl hb, fun x c e => (K.ok.exf b hb).2 x c e, fun p hp => absurd (show p ∈ ([] : List (Addr × Obj)) ++ [] from hp) (by simp)⟩
  have loop : codeAny (model X.prog X.w) X.A (.compLoop (.ListComp el [⟨tg, itr, [], 0⟩] sc po) 0 (.ref it) (.ref D) ce) (compPost (model X.prog X.w) X.A X.xe none Qf (.ref D) t3.heap.objs.size) t4 := by
    refine compLoop_any (fun n t' => ∃ i H', Inv (X.blk t3 Hz3 sc ce fp) [] (wipe σ (own.map (·.2))) H' t' ∧ tn i t'.heap ∧ (∀ b ∈ fp, H' b = none) ∧ W i n H') ?_ m0 ⟨0, Hz3, J5, st4, nfz, w0⟩
    rintro n t5 ⟨i, H5, K5, st5, n5, w5⟩
    rcases turn i n H5 w5 with ⟨stop, qq⟩ | ⟨gg, Nx, hNx, step⟩
    · refine thnF (T.done (X.blk t3 Hz3 sc ce fp) rfl rfl rfl calm i [] t5 _ H5 (fun _ _ => False) K5 (stood K5 n5) st5 stop) fun r t6 ⟨hr, K6⟩ => ?_
      subst hr
      have bs := K6.base
      have J7 : Inv X pn σ (wn H5 N) t6 := J3.call' (ch := fp) K6.os (un_thaw bs hz3N (fun b n => (upd_ne (neD b (nlt b n))).trans (fz.off b n)) hz3I fun b o e => (K6.hok b _ e).1) (hok_thaw K6.hok fun b n => let ⟨o, _, a2⟩ := hz3I b n; ⟨o, bs.frzs b o okT a2⟩) K6.bare
        fun b hb => ⟨(fp3 b hb).1.2.2.2.1, (fp3 b hb).1.2.1, (fp3 b hb).1.2.2.2.2.1, (fp3 b hb).1.2.2.2.2.2⟩
      have nC : H5 t3.heap.objs.size = none := by have z : H5 ce.locals = none := K6.free; rw [cL] at z; exact z
      have nN : ¬ N t3.heap.objs.size := fun z => absurd (nlt _ z) (by rw [sz3]; exact Nat.not_lt_of_le (Nat.le_succ _))
      obtain ⟨mm, hn, _⟩ := K6.loc
      have hn : t6.heap.Ns ce.locals mm := hn
      rw [cL] at hn
      exact fin D t3.heap.objs.size t6 mm _ J7 qq hn (J3.fpOk (Nat.le_refl _) ((wn_ni nN).trans nC))
    · refine thnF (T.item (X.blk t3 Hz3 sc ce fp) rfl rfl rfl calm i [] t5 _ H5 (fun _ _ => False) K5 (stood K5 n5) st5 gg) fun r t6 ⟨u, hr, h6⟩ => ?_
      subst hr
      refine thnF h6 fun _ t7 ⟨x, H7, K7, r7, y7, st7, n7⟩ => ?_
      have K7' := K7.pinned (stood K7 n7) (T.obj _ _ st7)
      refine thnF (pg'.run _ t7 _ H7 x u _ K7' r7 (step x H7 y7)) fun _ t8 ⟨σ8, H8, K8, hw8, q8⟩ => ?_
      refine thnF ((pts_nil (X := X.blk t3 Hz3 sc ce fp)).run _ t8 σ8 H8 (fun b G => b = true ∧ G = H8) K8 ⟨rfl, rfl⟩) fun b t9 ⟨H9, K9, hb, eG⟩ => ?_
      subst hb eG
      simp only [if_true]
      refine thnF (pe'.run _ t9 σ8 H9 _ K9 q8) fun z t10 ⟨yv, H10, K10, r10, acc, hD10, hz10, nx⟩ => ?_
      refine app_ok (X := X.blk t3 Hz3 sc ce fp) K10 hD10 hz10 r10 fun t11 K11 => ?_
      obtain ⟨m', hm, w'⟩ := hNx _ nx
      have pin' : ∀ b ∈ fp, ∀ o, t7.heap.get? b = some o → t11.heap.get? b = some o ∧ (upd H10 D (.lst (acc ++ [yv]))) b = none := fun b hb o e =>
        let z := K11.pin (b, o) (List.mem_append_right _ (List.mem_append_right _ (mem_pinsAt hb e))); ⟨z.1, z.2.1⟩
      have hl : (wipe σ (own.map (·.2))).length = σ8.length := by rw [← hw8]; exact wipe_length _ _
      exact ⟨m', hm, i + 1, _, (K11.unpinned (pins := [])).weak hl (fun j v e => by rw [← hw8] at e; exact (wipe_some e).1), T.keep _ _ _ st7 fun b hb o e => (pin' b hb o e).1,
        fun b hb => let ⟨o, e, _⟩ := T.obj _ _ st7 b hb; (pin' b hb o e).2, w'⟩
  exact codeAny_compStart_list loop (T.self X.A 0 _ _ _ st4 loop)
theorem pe_lcF {el tg itr : Expr} {sc : Scope} {own : List (Str × Nat)} {po : Pos} {wi : TI} {g : TG} {te : TE} (calm : X.calm = true) (nodup : X.N.Nodup) (pi : PI X tg itr wi) (ok : BlkOk X.N X.env.scope sc own) (nf : ∀ y ∈ sc.names, y.2 ≠ .free)
    (pg : ∀ (t : Shared) (H : Hp) (C : Addr) (cl : List (Str × Addr)) (fp : List Addr), PG (X.blk t H sc (compEnvC sc cl C X.env) fp) tg g) (pe : ∀ (t : Shared) (H : Hp) (C : Addr) (cl : List (Str × Addr)) (fp : List Addr), PE (X.blk t H sc (compEnvC sc cl C X.env) fp) el te)
    (hfn : ∀ y, X.fn y = true := by intro _; rfl) (fo : ∀ x, foldedSetIterable itr X.env x = pure x := by intro _; rfl) : PE X (.ListComp el [⟨tg, itr, [], 0⟩] sc po) (tLcF X wi g te (own.map (·.2))) := by
  refine ⟨fun pn t σ H Q J rd => ?_⟩
  rw [eval_ListComp]
  refine lcF_core calm hfn J pi ok nodup nf pg pe fo rd fun D C t' m H' K q hn ⟨f0, f1, f2, f3, f4, f5⟩ => ⟨m, hn, fun h'' sb => ?_⟩
  exact ⟨.ref D, H', K.turned (t' := t'.toks) (fun b u hb e => (sb.2 b hb).trans e) f0 f1 f3 f4 f5, rfl, q⟩
end
end Sw
namespace Sw
open PySem PySem.Spec PyProof.Rows L2 Evl
/-! ### an exception that leaves a comprehension -/
theorem note_frame {a b : Env} (h : a.frame = b.frame) (x : Value) : noteFrame x a = noteFrame x b := by
  unfold noteFrame PySem.frameOf
  rw [h]
theorem ff_but {h h' B G : Heap} : ∀ {l : List Env}, h.FunFrames B l → (∀ b ∈ frs l, h'.get? b = h.get? b) → (∀ b ∈ frs l, G.get? b = none) → h'.FunFrames G l
  | [], _, _, _ => trivial
  | e :: l, ⟨k, ⟨L, o, e1, _, e3, nf⟩, r⟩, hk, hn => by
    have m : L ∈ frs (e :: l) := by show L ∈ List.filterMap _ _; rw [List.filterMap_cons_some e1]; exact List.mem_cons_self
    have t : ∀ b, b ∈ frs l → b ∈ frs (e :: l) := fun b hb => by show b ∈ List.filterMap _ _; rw [List.filterMap_cons_some e1]; exact List.mem_cons_of_mem _ hb
    exact ⟨k, ⟨L, o, e1, hn L m, (hk L m).trans e3, nf⟩, ff_but r (fun b hb => hk b (t b hb)) fun b hb => hn b (t b hb)⟩
/-- an exception that a call let out, as it stands in the caller's air -/
theorem air_call {X : Cx} {pins : List (Addr × Obj)} {σ : L2.St} {H : Hp} {s s' : Shared} {E : XK} {W : WX} {u : Value} (I : Inv X pins σ H s) (hW : ∀ cls d H', E cls d H' → W cls d σ H') (c : L2.CX X.prog X.w X.stack H s E u s') :
    ∃ (a : Addr) (B : Heap) (sI : Shared) (pins' : List (Addr × Obj)) (σ' : L2.St) (H' : Hp) (cls : Value) (d : Option Addr),
      u = .ref a ∧ Inv X pins' σ' H' sI ∧ (∀ b o, sI.heap.get? b = some o → b ∉ frs X.stack → B.get? b = some o) ∧ sI.heap.UpToSlots s'.heap ∧
        HandSPX.FlyingZ B X.stack a (Zc cls d) s'.heap ∧ H' a = none ∧ s'.os = sI.os ∧ AllBare s'.gens ∧ W cls d σ' H' := by
  have c' := c
  obtain ⟨a, B, sI, p, σ', H', cls, d, e, J, nb, up, sky, r⟩ := XE.of_call (W := W) I hW c
  obtain ⟨a2, B2, H2, cls2, d2, e2, fl2, _⟩ := c'
  have ea : a2 = a := by rw [e] at e2; cases e2; rfl
  subst ea
  obtain ⟨_, _, _, oe, vs, T, oT, ts, q1, _, q2, q3, _, _, q4, q5, q6⟩ := fl2
  refine ⟨a2, B, sI, p, σ', H', cls, d, e, J, nb, up, ?_, r⟩
  rcases sky with ⟨_, _, _, oe', vs', w1, _, w2, w3⟩ | f | ⟨_, _, _, oe', vs', T', oT', ts', w1, _, w2, w3, _, _, w4, w5, w6⟩
  · rw [q1] at w1; cases w1
    rw [q2] at w2; cases w2
    rw [q3] at w3; cases w3
  · exact f
  · rw [q1] at w1; cases w1
    rw [q2] at w2; cases w2
    rw [q3] at w3; cases w3
    rw [q4] at w4; cases w4
    rw [q5] at w5; cases w5
    rw [q6] at w6; cases w6
theorem out_of_block {X : Cx} {pins pn pb : List (Addr × Obj)} {σ σb : L2.St} {H3 Hb : Hp} {s3 sb s' : Shared} {scope : Scope} {ce : Env} {fp : List Addr} {xe : Value → Shared → Prop} {E : XK} {Wo : WX} {u : Value} (tk : Takes X Wo) (hs : X.stack = X.env :: X.outer) (hf : X.env.frame = some X.env.locals)
    (cF : ce.frame = X.env.frame) (cL : ce.locals = s3.heap.objs.size) (I3 : Inv X pins σ H3 s3) (f3 : ∀ b ∈ fp, FpOk X pins H3 b) (I : Inv ((X.blk s3 H3 scope ce fp).tr pn xe) pb σb Hb sb) (hE : ∀ cls d H', E cls d H' → Wo cls d σ H')
    (c : L2.CX X.prog X.w X.stack Hb sb E u s') : notedBy (model X.prog X.w) X.A ce (fun e s'' => CompFails (model X.prog X.w) X.A X.xe ce e s'') u s' := by
  obtain ⟨a, B, sI, p', σ', H', cls, d, rfl, J, nb, up, fl, na, os, ag, w⟩ := air_call (X := (X.blk s3 H3 scope ce fp).tr pn xe) (W := fun cls d _ H => Wo cls d σ H) I (fun cls d H' q => hE cls d H' q) c
  have J' := J
  have I6 : Inv X pins σ H' sI := I3.call' (ch := fp) J.os J.base J.hok J.bare fun b hb => ⟨(f3 b hb).2.2.2.1, (f3 b hb).2.1, (f3 b hb).2.2.2.2.1, (f3 b hb).2.2.2.2.2⟩
  have nC : H' s3.heap.objs.size = none := by
    have z : H' ce.locals = none := J.free
    rw [cL] at z; exact z
  obtain ⟨m, hn, _⟩ := J.loc
  have hn : sI.heap.Ns ce.locals m := hn
  rw [cL] at hn
  obtain ⟨f0, f1, f2, f4, f5, f6⟩ := I3.fpOk (H' := H') (Nat.le_refl _) nC
  have cF' : ce.frame = some X.env.locals := cF.trans hf
  have nfr : s3.heap.objs.size ∉ frs X.stack := fun z => by
    rw [hs] at z
    have z : s3.heap.objs.size ∈ List.filterMap _ _ := z
    rw [List.filterMap_cons_some hf] at z
    rcases List.mem_cons.mp z with z | z
    · exact f1 z
    · exact f2 z
  have hfr : X.A.frames = some (X.env :: X.outer) := by rw [I6.ok.frames, hs]
  have fl : HandSPX.FlyingZ B (X.env :: X.outer) a (Zc cls d) s'.heap := by rw [← hs]; exact fl
  show wpAny _ X.A (noteFrame (.ref a) ce) _ _ s'
  rw [note_frame cF]
  refine HandSPX.looks_onZ Zc.steady hfr hf fl fun h3 hh up3 => ?_
  obtain ⟨k1, k2, k3, oe, vs, T, oT, ts, he, hz, hdd, h1, hnT, hTe, hT, hdT, ht3⟩ := hh
  obtain ⟨oC, es, ep, ho, hdC, hk⟩ := hn
  have nfC : ∀ vs, oC.data ≠ .fields vs := fun vs z => by rw [hdC] at z; cases z
  obtain ⟨sl, g1⟩ := up _ _ ho nfC
  obtain ⟨sl2, g2⟩ := up3 _ _ g1 nfC
  have eC : h3.get? s3.heap.objs.size = some { oC with slots := sl2 } := g2
  have bC : B.get? s3.heap.objs.size = some oC := nb _ _ ho nfr
  have aC : a ≠ s3.heap.objs.size := fun z => by
    rw [z, eC] at he; cases he
    exact nfC _ hdd
  have TC : T ≠ s3.heap.objs.size := fun z => by
    rw [z, eC] at hT; cases hT
    exact nfC _ hdT
  refine ⟨m, by rw [cL]; exact ⟨_, es, ep, eC, hdC, hk⟩, fun h4 m4 hn4 sb => ?_⟩
  rw [cL] at hn4 sb
  obtain ⟨o4, es4, ep4, ho4, hd4, _⟩ := hn4
  obtain ⟨G, r1, r2⟩ := restrict h4 fun b => (B.get? b).isSome
  have gN : ∀ b, B.get? b = none → G.get? b = none := fun b e => r2 b (by rw [e]; rfl)
  have gS : ∀ b o, b ≠ s3.heap.objs.size → B.get? b = some o → G.get? b = some o := fun b o n e => by
    rw [r1 b (by rw [e]; rfl), sb.2 b n]
    exact k1 b o e
  have gC : G.get? s3.heap.objs.size = some o4 := by rw [r1 _ (by rw [bC]; rfl)]; exact ho4
  have st : G.StaysIn h4 := fun b o e => by
    cases q : (B.get? b).isSome with
    | false => rw [r2 b q] at e; cases e
    | true => rw [r1 b q] at e; exact e
  have nfr' : s3.heap.objs.size ∉ frs (X.env :: X.outer) := by rw [← hs]; exact nfr
  have ff : h4.FunFrames G (X.env :: X.outer) := ff_but k3 (fun b hb => sb.2 b fun z => nfr' (z ▸ hb)) fun b hb => gN b (k3.mem hb).1
  have he4 : h4.get? a = some oe := (sb.2 a aC).trans he
  unfold PySem.passOn
  refine wpAny_bind (wpAny_field he4 hdd h1 ?_)
  rw [if_neg (show ¬ ((Value.ref T == Value.none) = true) from by simp)]
  have hT4 : HandSPX.TracedZ h4 G a (Zc cls d) (rawInt X.env.locals) := ⟨oe, vs, T, oT, ts, he4, hz, hdd, h1, gN T hnT, hTe, (sb.2 T TC).trans hT, hdT, ht3⟩
  have up4 : ∀ h5 : Heap, h4.UpToSlots h5 → (sI.heap.update s3.heap.objs.size fun _ => o4).UpToSlots h5 := fun h5 up5 b o e nf => by
    by_cases z : b = s3.heap.objs.size
    · subst z
      rw [Heap.get?_update_self _ ho (Obj.isFreed_of_dict hd4)] at e
      cases e
      exact up5 _ _ ho4 nf
    · rw [Heap.get?_update_other _ _ (Ne.symm z)] at e
      obtain ⟨l1, e1⟩ := up b o e nf
      obtain ⟨l2, e2⟩ := up3 b _ e1 nf
      have e3 := (sb.2 b z).trans e2
      obtain ⟨l3, e4⟩ := up5 b _ e3 nf
      exact ⟨l3, e4⟩
  have fin : wpAny (model X.prog X.w) X.A (setFlight (.ref a) (some X.env.locals)) (fun _ s4 => wpAny (model X.prog X.w) X.A (throw (.ref a) : Sem Value) (fun _ _ => False) X.xe s4) X.xe { s' with heap := h4 } := by
    refine HandSPX.setFlight_anyZ st ff hT4 fun h5 j1 j2 j3 up5 => wpAny_throw (tk _ _ ?_)
    refine ⟨a, G, { sI with heap := sI.heap.update s3.heap.objs.size fun _ => o4 }, pins, σ, H', cls, d, rfl, I6.turned (t' := sI.toks) (fun b o z e => (Heap.get?_update_other _ _ (Ne.symm z)).trans e) f0 f1 f4 f5 f6, fun b o e hb => ?_, up4 h5 up5, .inr (.inr ?_), na, os, ag, w⟩
    · have e : (sI.heap.update s3.heap.objs.size fun _ => o4).get? b = some o := e
      by_cases z : b = s3.heap.objs.size
      · subst z
        rw [Heap.get?_update_self _ ho (Obj.isFreed_of_dict hd4)] at e
        cases e
        exact gC
      · rw [Heap.get?_update_other _ _ (Ne.symm z)] at e
        exact gS b o z (nb b o e hb)
    · rw [hs]; exact ⟨j1, gN a k2, j2, j3⟩
  rw [cF']
  first
    | exact wpAny_bind (wpAny_pure (wpAny_bind fin))
    | exact wpAny_bind fin
end Sw
namespace Sw
open PySem PySem.Spec PyProof.Rows L2 Evl
/-! ### a comprehension whose element may raise -/
section
variable {X : Cx} {E : XK}
theorem lcR_core {pn : List (Addr × Obj)} {t : Shared} {σ : L2.St} {H : Hp} {Q : VK} {el tg itr : Expr} {sc : Scope} {own : List (Str × Nat)} {po po' : Pos} {wi : TI} {g : TG} {te : TE} {Qf : Value → Shared → Prop} (tk : Takes X (fun cls d _ H => E cls d H)) (hs : X.stack = X.env :: X.outer) (hf : X.env.frame = some X.env.locals)
    (calm : X.calm = true) (nodup : X.N.Nodup) (J : Inv X pn σ H t) (pi : PI X tg itr wi) (ok : BlkOk X.N X.env.scope sc own)
    (pg : ∀ (t : Shared) (H : Hp) (C : Addr) (cl : List (Str × Addr)) (fp : List Addr), PG (X.blk t H sc (compEnvC sc cl C X.env) fp) tg g)
    (pe : ∀ (t : Shared) (H : Hp) (C : Addr) (cl : List (Str × Addr)) (fp : List Addr) (pn : List (Addr × Obj)) (xe : Value → Shared → Prop), Passes (L2.CX X.prog X.w) ((X.blk t H sc (compEnvC sc cl C X.env) fp).tr pn xe) E → PE ((X.blk t H sc (compEnvC sc cl C X.env) fp).tr pn xe) el te)
    (fo : ∀ x, foldedSetIterable itr X.env x = pure x) (rd : tLc wi g tYes te (own.map (·.2)) σ H Q)
    (fin : ∀ D C t' m H', Inv X pn σ H' t' → Q (.ref D) H' → t'.heap.Ns C m → FpOk X pn H' C → ∃ m, t'.heap.Ns C m ∧ ∀ h', Heap.SameBut C t'.heap h' → Qf (.ref D) { t' with heap := h' }) :
    wpAny (model X.prog X.w) X.A (comprehension (.ListComp el [⟨tg, itr, [], 0⟩] sc po) sc X.env po' (newList []) false (eval itr X.env) none) Qf X.xe t := by
  have hfree : ∀ y ∈ sc.names, y.2 = .free → ∃ c, X.env.cells.lookup y.1 = some c := fun y hy e => by
    rcases ok.free y hy e with k | k
    · exact J.ok.has _ (.inl k)
    · exact J.ok.has _ (.inr k)
  refine comprehension_at (use := none) rfl fo (closure_ok hfree) ok.kind (fun y hy e => by rw [ok.uniq y hy, e]) (thn (pi.run pn t σ H _ J rd) fun xv t1 hx => thn hx fun iv t2 h2 => ?_)
  obtain ⟨it, fp, tn, Jt, H2, e, J2, T, st2, f2, q⟩ := h2
  subst e
  refine wpAny_newObj_type (newEnv_comp ?_) (Nat.zero_le _)
  generalize hD : t2.heap.objs.size = D
  have Dn2 : H2 D = none := J2.hok.fresh (Nat.le_of_eq hD)
  obtain ⟨W, ⟨m0, w0⟩, turn⟩ := q D Dn2
  generalize ht3 : ({ t2 with heap := t2.heap.push { cls := .type "list", data := .seq ([] : List Value).toArray } } : Shared) = t3
  have hp3 : t3.heap = t2.heap.push { cls := .type "list", data := .seq ([] : List Value).toArray } := by rw [← ht3]
  have k23 : ∀ b u, t2.heap.get? b = some u → t3.heap.get? b = some u := fun b u e => by rw [hp3]; exact Heap.get?_push_of_some _ e
  have J3 : Inv X pn σ (upd H2 D (.lst [])) t3 := by
    rw [← ht3]
    refine J2.laid (t' := t2.toks) (fun b u e => Heap.get?_push_of_some _ e) (Nat.le_of_eq hD) ⟨Nat.zero_le _, [], 0, .nil, ?_⟩
    rw [← hD]; exact Heap.get?_push_size _ rfl
  have neD : ∀ b, b < t2.heap.objs.size → b ≠ D := fun b z => by rw [← hD]; exact Nat.ne_of_lt z
  have lt2 : ∀ b ∈ fp, b < t2.heap.objs.size := fun b hb => let ⟨o, e, _⟩ := T.obj _ _ st2 b hb; Heap.lt_size e
  have sz3 : t3.heap.objs.size = t2.heap.objs.size + 1 := by rw [hp3, Heap.size_push]
  have fp3 : ∀ b ∈ fp, FpOk X pn (upd H2 D (.lst [])) b ∧ b < t3.heap.objs.size := fun b hb => by
    have z := lt2 b hb
    exact ⟨⟨(upd_ne (neD b z)).trans (f2 b hb).1, (f2 b hb).2⟩, by rw [sz3]; exact Nat.lt_succ_of_lt z⟩
  have st3 : tn 0 t3.heap := T.keep _ _ _ st2 fun b _ u e => k23 b u e
  have J4 := block_start J3 ok nodup fp3
  generalize hcl : cellsFrom (t3.heap.objs.size + 1) sc.names (cloFrom X.env.cells sc.names []) = cls at J4 ⊢
  have k34 : ∀ b u, t3.heap.get? b = some u → (pushCells (t3.heap.push { cls := .type "dict", data := .dict #[] }) sc.names).get? b = some u := fun b u e => pushCells_keeps _ _ _ _ (Heap.get?_push_of_some _ e)
  have nfz : ∀ b ∈ fp, (upd H2 D (.lst [])) b = none := fun b hb => (fp3 b hb).1.1
  show codeAny _ _ (.compStart (.ListComp el [⟨tg, itr, [], 0⟩] sc po) 0 (.ref it) (.ref D) (compEnvC sc cls t3.heap.objs.size X.env)) (compEnds (model X.prog X.w) X.A X.xe none Qf (.ref D) (compEnvC sc cls t3.heap.objs.size X.env)) { t3 with heap := pushCells (t3.heap.push { cls := .type "dict", data := .dict #[] }) sc.names }
  have pg' := pg t3 (upd H2 D (.lst [])) t3.heap.objs.size cls fp
  have pe' := pe t3 (upd H2 D (.lst [])) t3.heap.objs.size cls fp
  have cF : (compEnvC sc cls t3.heap.objs.size X.env).frame = X.env.frame := rfl
  generalize hce : compEnvC sc cls t3.heap.objs.size X.env = ce at J4 pg' pe' cF ⊢
  have cL : ce.locals = t3.heap.objs.size := by subst hce; rfl
  generalize hz3 : upd H2 D (.lst []) = H3 at J3 J4 pg' pe' w0 nfz fp3
  generalize ht4 : ({ t3 with heap := pushCells (t3.heap.push { cls := .type "dict", data := .dict #[] }) sc.names } : Shared) = t4 at J4 ⊢
  have st4 : tn 0 t4.heap := T.keep _ _ _ st3 fun b _ u e => by rw [← ht4]; exact k34 b u e
  have stood : ∀ {σ' : L2.St} {H' : Hp} {t' : Shared}, Inv (X.blk t3 H3 sc ce fp) [] σ' H' t' → (∀ b ∈ fp, H' b = none) → ∀ b ∈ fp, FpOk (X.blk t3 H3 sc ce fp) [] H' b := fun {σ' H' t'} K n b hb =>
    ⟨n b hb, (K.ok.exf b hb).1, K.ok.exfs b hb, .inl hb, fun x c e => (K.ok.exf b hb).2 x c e, fun p hp => absurd (show p ∈ ([] : List (Addr × Obj)) ++ [] from hp) (by simp)⟩
  have loop : codeAny (model X.prog X.w) X.A (.compLoop (.ListComp el [⟨tg, itr, [], 0⟩] sc po) 0 (.ref it) (.ref D) ce) (compEnds (model X.prog X.w) X.A X.xe none Qf (.ref D) ce) t4 := by
    refine compLoop_any (fun n t' => ∃ i H', Inv (X.blk t3 H3 sc ce fp) [] (wipe σ (own.map (·.2))) H' t' ∧ tn i t'.heap ∧ (∀ b ∈ fp, H' b = none) ∧ W i n H') ?_ m0 ⟨0, H3, J4, st4, nfz, w0⟩
    rintro n t5 ⟨i, H5, K5, st5, n5, w5⟩
    rcases turn i n H5 w5 with ⟨stop, qq⟩ | ⟨gg, Nx, hNx, step⟩
    · refine thnF (T.done (X.blk t3 H3 sc ce fp) rfl rfl rfl calm i [] t5 _ H5 (fun _ _ => False) K5 (stood K5 n5) st5 stop) fun r t6 ⟨hr, K6⟩ => ?_
      subst hr
      have J7 : Inv X pn σ H5 t6 := J3.call' (ch := fp) K6.os K6.base K6.hok K6.bare
        fun b hb => ⟨(fp3 b hb).1.2.2.2.1, (fp3 b hb).1.2.1, (fp3 b hb).1.2.2.2.2.1, (fp3 b hb).1.2.2.2.2.2⟩
      have nC : H5 t3.heap.objs.size = none := by have z : H5 ce.locals = none := K6.free; rw [cL] at z; exact z
      obtain ⟨mm, hn, _⟩ := K6.loc
      have hn : t6.heap.Ns ce.locals mm := hn
      rw [cL] at hn
      obtain ⟨m2, q1, q2⟩ := fin D t3.heap.objs.size t6 mm _ J7 qq hn (J3.fpOk (Nat.le_refl _) nC)
      exact ⟨m2, by rw [cL]; exact q1, fun h' sb => q2 h' (by rw [cL] at sb; exact sb)⟩
    · refine thnF (T.item (X.blk t3 H3 sc ce fp) rfl rfl rfl calm i [] t5 _ H5 (fun _ _ => False) K5 (stood K5 n5) st5 gg) fun r t6 ⟨u, hr, h6⟩ => ?_
      subst hr
      refine thnF h6 fun _ t7 ⟨x, H7, K7, r7, y7, st7, n7⟩ => ?_
      have K7' := K7.pinned (stood K7 n7) (T.obj _ _ st7)
      refine thnF (pg'.run _ t7 _ H7 x u _ K7' r7 (step x H7 y7)) fun _ t8 ⟨σ8, H8, K8, hw8, q8⟩ => ?_
      refine thnF ((pts_nil (X := X.blk t3 H3 sc ce fp)).run _ t8 σ8 H8 (fun b G => b = true ∧ G = H8) K8 ⟨rfl, rfl⟩) fun b t9 ⟨H9, K9, hb, eG⟩ => ?_
      subst hb eG
      simp only [if_true]
      generalize hxe : notedBy (model X.prog X.w) X.A ce (fun e s' => compEnds (model X.prog X.w) X.A X.xe none Qf (.ref D) ce (.error e) s') = xe
      have ps : Passes (L2.CX X.prog X.w) ((X.blk t3 H3 sc ce fp).tr ((X.blk t3 H3 sc ce fp).pn ++ ([] ++ pinsAt fp t7.heap)) xe) E := fun pp σp Hp sp e s' Ip c => by
        show xe e s'
        rw [← hxe]
        exact out_of_block (X := X) (σ := σ) (Wo := fun cls d _ H => E cls d H) tk hs hf cF cL J3 (fun b hb => (fp3 b hb).1) Ip (fun _ _ _ q => q) c
      refine wpAny_mono ((pe' _ xe ps).run [] t9 σ8 H9 _ (K9.toTry xe) q8) (fun z t10 ⟨yv, H10, K10t, r10, acc, hD10, hz10, nx⟩ => ?_) fun e s' q => q
      have K10 := K10t.ofTry K9.ok
      refine app_ok (X := X.blk t3 H3 sc ce fp) K10 hD10 hz10 r10 fun t11 K11 => ?_
      obtain ⟨m', hm, w'⟩ := hNx _ nx
      have pin' : ∀ b ∈ fp, ∀ o, t7.heap.get? b = some o → t11.heap.get? b = some o ∧ (upd H10 D (.lst (acc ++ [yv]))) b = none := fun b hb o e =>
        let z := K11.pin (b, o) (List.mem_append_right _ (List.mem_append_right _ (mem_pinsAt hb e))); ⟨z.1, z.2.1⟩
      have hl : (wipe σ (own.map (·.2))).length = σ8.length := by rw [← hw8]; exact wipe_length _ _
      exact ⟨m', hm, i + 1, _, (K11.unpinned (pins := [])).weak hl (fun j v e => by rw [← hw8] at e; exact (wipe_some e).1), T.keep _ _ _ st7 fun b hb o e => (pin' b hb o e).1,
        fun b hb => let ⟨o, e, _⟩ := T.obj _ _ st7 b hb; (pin' b hb o e).2, w'⟩
  exact codeAny_compStart_list loop (T.self X.A 0 _ _ _ st4 loop)
/-- as a value -/
theorem pe_lcR {el tg itr : Expr} {sc : Scope} {own : List (Str × Nat)} {po : Pos} {wi : TI} {g : TG} {te : TE} (tk : Takes X (fun cls d _ H => E cls d H)) (hs : X.stack = X.env :: X.outer) (hf : X.env.frame = some X.env.locals) (calm : X.calm = true) (nodup : X.N.Nodup) (pi : PI X tg itr wi) (ok : BlkOk X.N X.env.scope sc own)
    (pg : ∀ (t : Shared) (H : Hp) (C : Addr) (cl : List (Str × Addr)) (fp : List Addr), PG (X.blk t H sc (compEnvC sc cl C X.env) fp) tg g)
    (pe : ∀ (t : Shared) (H : Hp) (C : Addr) (cl : List (Str × Addr)) (fp : List Addr) (pn : List (Addr × Obj)) (xe : Value → Shared → Prop), Passes (L2.CX X.prog X.w) ((X.blk t H sc (compEnvC sc cl C X.env) fp).tr pn xe) E → PE ((X.blk t H sc (compEnvC sc cl C X.env) fp).tr pn xe) el te)
    (fo : ∀ x, foldedSetIterable itr X.env x = pure x := by intro _; rfl) : PE X (.ListComp el [⟨tg, itr, [], 0⟩] sc po) (tLc wi g tYes te (own.map (·.2))) := by
  refine ⟨fun pn t σ H Q J rd => ?_⟩
  rw [eval_ListComp]
  refine lcR_core tk hs hf calm nodup J pi ok pg pe fo rd fun D C t' m H' K q hn ⟨f0, f1, f2, f3, f4, f5⟩ => ⟨m, hn, fun h'' sb => ?_⟩
  exact ⟨.ref D, H', K.turned (t' := t'.toks) (fun b u hb e => (sb.2 b hb).trans e) f0 f1 f3 f4 f5, rfl, q⟩
end
end Sw
namespace Sw
open PySem PySem.Spec PyProof.Rows L2 Evl LamX NdefX
/-! ### an exception's own __init__ that begins with super().__init__(..) -/
/-- what the written part says of such a method: its object, its code, its cell, its class -/
structure SupF (P : Program) (K : PySem.W.Frag) (qual : Str) (st : Stmt) (f : Addr) (fd : FuncData) (cda cc D : Addr) : Prop where
  ex : ∃ (oc : Value) (od : Option Addr) (kV doc pm : Value) (an : Option Addr) (ct : Value) (osl : Array (Option Value)), fd = PySem.W.ksFn "__init__" qual (L2.defArgs st) (L2.defBody st) (L2.defScope st) .none kV doc pm an (.ref cda) ct cc ∧ K.lookup f = some ⟨oc, od, .func fd, osl⟩ ∧ PySem.W.codeIn K (.ref cda) qual = true
  code : ∃ (oc : Value) (od : Option Addr) (vs : Array Value) (sl : Array (Option Value)) (file : Str) (tf : Tok), K.lookup cda = some ⟨oc, od, .fields vs, sl⟩ ∧ vs[2]? = some (.str file tf) ∧ ((P.main.file : Str) == file) = true
  cell : ∃ (oc : Value) (od : Option Addr) (sl : Array (Option Value)), K.lookup cc = some ⟨oc, od, .cell (some (.ref D)), sl⟩
  any : PySem.W.nsIn K cStatics "thirdparty.any" = some none
  sup : PySem.W.ks_superIn K D D "__init__" = some (some (.builtin "ValueError.__init__"))
  sub : PySem.W.mroIn K D (.ref D) = some true
  subV : PySem.W.subIn K (.ref D) (.type "ValueError") = some true
  top : (P.main.scope.names.lookup ("super" : Str)).isSome = false
theorem inv_pin {X : Cx} {pins : List (Addr × Obj)} {σ : L2.St} {H : Hp} {s : Shared} {p : Addr × Obj} (I : Inv X pins σ H s) (h : s.heap.get? p.1 = some p.2 ∧ H p.1 = none ∧ p.1 ≠ X.env.locals ∧ p.1 ∉ X.fs ∧ ∀ v, p.2.data ≠ .cell v) : Inv X (p :: pins) σ H s := I.pins_of fun q hq => by
  rcases List.mem_cons.mp hq with rfl | hq
  · exact h
  · exact I.pin q (List.mem_append_right _ hq)
theorem inv_unpin {X : Cx} {pins : List (Addr × Obj)} {σ : L2.St} {H : Hp} {s : Shared} {p : Addr × Obj} (I : Inv X (p :: pins) σ H s) : Inv X pins σ H s := I.pins_of fun q hq => I.pin q (List.mem_append_right _ (List.mem_cons_of_mem _ hq))
/-- the bound initializer is called: the exception's arguments are set, nothing of them is told -/
theorem mw_call {X : Cx} {pins : List (Addr × Obj)} {σ : L2.St} {H : Hp} {s : Shared} {C a u : Addr} {us : List Value} {Q : Value → Shared → Prop} {E : Value → Shared → Prop} {A : Around} (T : OexC X.K C) (I : Inv X pins σ H s) (e : H a = some (exo a C none)) (hu : s.heap.get? u = some (PySem.W.kxs_mw "ValueError.__init__" a)) (hl : us.length ≤ sizeLine)
    (h : ∀ s', Inv X pins σ H s' → Q .none s') : wpAny (model X.prog X.w) A (call (.ref u) us) Q E s := by
  obtain ⟨nm, q, N, bs, bm, sn, sub, ab, col, dd, k0, k1, k2, k3, k5, hC, hbm⟩ := T.cls
  obtain ⟨t1, ho⟩ := exo_at I.hok e
  have kI := I.kIn _ _ hC
  have eu : upd H a (exo a C none) = H := by
    funext b
    by_cases hb : b = a
    · rw [hb, upd_same, e]
    · rw [upd_ne hb]
  obtain ⟨hp, g, d, t, os⟩ := s
  refine wpAny_call (codeAny_of_tree ?_)
  show wpAny _ A.in1 (callAny (.ref u) ⟨us, []⟩) _ _ _
  simp only [callAny]
  refine wpAny_bind (wpAny_load hu ?_)
  simp only [PySem.W.kxs_mw, show (Value.type "method-wrapper" == Value.type "method" || Value.type "method-wrapper" == Value.type "builtin_function_or_method" || Value.type "method-wrapper" == Value.type "method-wrapper") = true by decide, if_true]
  refine PySem.W.KFB.if_so (by decide) ?_
  refine wpAny_bind (PySem.W.check_bound_init PySem.F.excBase_ValueError.toExcCallFacts kI ho rfl ?_)
  refine wpAny_bind (wpAny_pure (wpAny_pure ?_))
  refine ⟨plainId_quiet PySem.F.excBase_ValueError.init.plain _, codeAny_builtin PySem.F.excBase_ValueError.initEntry ?_⟩
  refine PySem.W.exc_init_tree (cls := .ref C) (t0 := t1) (dv := none) (c2 := .none) (c3 := .none) (b4 := .bool false) ho hl fun h' k hx _ => ?_
  have J := I.write (t' := t) (x := a) (e := a) (o := exo a C none) (by rw [e]; exact True.intro) (.inl rfl) k ⟨_, hx⟩ (exo_ok hx)
  rw [eu] at J
  exact h _ J
/-- such a method keeps its promise -/
theorem sup_fn {CX : CXT} {P : Program} {w : World} {K : PySem.W.Frag} {mg : Str → Option Value} {base : Heap} {k : Nat} {f cda cc D : Addr} {fd : FuncData} {qual : Str} {st : Stmt} {N ps : List Str} {sp : Sp} {ar : Arg} {x : Expr} {rest : List Stmt} {p0 p1 p2 pos1 pos2 : Pos} {pl : Sem Bool}
    (F : SupF P K qual st f fd cda cc D) (T : OexC K D) (hst : L2.defBody st = .Expr (.Call (.Attribute (.Call (.Name "super" p0) [] [] p1) "__init__" p2) [x] [] pos1) pos2 :: rest) (S : NScope N ps ["__class__"] (L2.defScope st))
    (hself : ((L2.defArgs st).posonlyargs ++ (L2.defArgs st).args).head? = some ar) (hN0 : N[0]? = some ar.arg) (hka : (L2.defScope st).names.lookup ar.arg = some .local) (hks : (L2.defScope st).names.lookup ("super" : Str) = some .globalImplicit) (hmg : mg "super" = none)
    (hpl : ∀ env : Env, eval (.Call (.Attribute (.Call (.Name "super" p0) [] [] p1) "__init__" p2) [x] [] pos1) env = (do
      let ov ← attributeBase (.Call (.Name "super" p0) [] [] p1) "__init__" env (eval (.Call (.Name "super" p0) [] [] p1) env)
      standAt p2.atName
      let (f, first) ← holding [ov] (getMethod ov "__init__" pl)
      callWith pos1 f first (backTo pos1 (starEach [x] env)) [])) (hsw : ∀ (l : Nat) (env : Env), swapsWith (.Call (.Attribute (.Call (.Name "super" p0) [] [] p1) "__init__" p2) [x] [] pos1) none l env = pure false) (hsx : ∀ env : Env, starEach [x] env = (false, eval x env) :: starEach [] env)
    (len : ∀ vs H Q E, sp vs H Q E → vs.length = ps.length)
    (hbody : ∀ (A : Around) (outer : List Env) (s : Shared) (H : Hp) (vs : List V) (Q : VK) (E : XK), Room k (A.deeper (envF ⟨"__init__", qual, L2.defArgs st, L2.defBody st, L2.defScope st, [("__class__", cc)], cda⟩ f s.heap.objs.size)) → sp vs H Q E →
      ∃ (ta : TA) (tr : TS) (a : Addr) (ws : List V), PA (ncx CX P w K mg base N ⟨"__init__", qual, L2.defArgs st, L2.defBody st, L2.defScope st, [("__class__", cc)], cda⟩ f A outer s H E) [x] ta ∧ PSs (ncx CX P w K mg base N ⟨"__init__", qual, L2.defArgs st, L2.defBody st, L2.defScope st, [("__class__", cc)], cda⟩ f A outer s H E) rest tr ∧
        vs = .ref a :: ws ∧ H a = some (exo a D none) ∧ ta (startF N vs [none]) H (fun us H1 => us.length ≤ 1000 ∧ H1 a = some (exo a D none) ∧ tr { nx := fun _ H' => Q .non H', rt := Q } (startF N vs [none]) H1)) :
    FnOk P w K mg base CX (k + 1) f fd ps sp := by
  obtain ⟨oc, od, kV, doc, pm, an, ct, osl, rfl, lk, hcd⟩ := F.ex
  obtain ⟨oc1, od1, cvs, sl1, file, tf, hcode, hvs, hfile⟩ := F.code
  obtain ⟨oc2, od2, sl2, hcell⟩ := F.cell
  obtain ⟨nm, q, NN, bs, bm, sn, sub, ab, col, dd, k0, k1, k2, k3, k5, hC, hbm⟩ := T.cls
  have hcl : PySem.W.clsIn K D = some { name := nm, bases := bs, mro := .ref D :: bm, ns := NN, qualname := q, hasDict := true, slotNames := sn, subclasses := sub, abstract := ab, collection := col, hasDel := false } := by unfold PySem.W.clsIn; rw [hC] <;> rfl
  refine ⟨len, fun A outer s H args us vs Q E hr e0 hb r hsp => ?_⟩
  have hl := len _ _ _ _ hsp
  have KX : K.In s.heap := e0.mod.kin.keeps fun b o e => (e0.bs b o e).1
  have lim : s.heap.NoLimit := e0.mod.nolimit.keeps fun b o e => (e0.bs b o e).1
  have kc : (L2.defScope st).names.lookup ("__class__" : Str) = some .free := S.frk _ (by simp)
  refine ks_codeAny_call_defAt (body := .Expr (.Call (.Attribute (.Call (.Name "super" p0) [] [] p1) "__init__" p2) [x] [] pos1) pos2 :: rest) (binds := ps.zip us) hr.depth (KX _ _ lk) rfl lim (PySem.W.codeRec_of KX hcd) (by rw [← hst]) hb S.nocell (fun ⟨n, v⟩ hy => S.par n (List.of_mem_zip hy).1) (fun h₁ hns kp => ?_) S.co S.gen S.kind
  obtain ⟨ta, tr, a, ws, hx, hrest, rfl, ea, hq⟩ := hbody A outer s H vs Q E (hr.deeper _) hsp
  have hlk : ∀ (y : Str) (c : Addr), List.lookup y [(("__class__" : Str), cc)] = some c → y = "__class__" ∧ c = cc := fun y c e => by
    cases h : (y == ("__class__" : Str)) with
    | true => simp only [List.lookup, h, Option.some.injEq] at e; exact ⟨beq_iff_eq.mp h, e.symm⟩
    | false => simp [List.lookup, h] at e
  have cells : CellsAt [(("__class__" : Str), cc)] ["__class__"] [none] s.heap H := by
    refine ⟨rfl, fun y c e => ?_, fun y z c e1 e2 => (hlk y c e1).1.trans (hlk z c e2).1.symm, fun i y e => ?_⟩
    · rw [(hlk y c e).2]; exact ⟨(e0.bs _ _ (e0.mod.kin _ _ hcell)).2, _, _, KX _ _ hcell, rfl⟩
    · match i, e with
      | 0, e => cases e; exact ⟨cc, rfl, fun v hv => by cases hv⟩
  have I : Inv (ncx CX P w K mg base N ⟨"__init__", qual, L2.defArgs st, L2.defBody st, L2.defScope st, [("__class__", cc)], cda⟩ f A outer s H E) [] (startF N (V.ref a :: ws) [none]) H { s with heap := h₁, toks := s.toks + (ps.zip us).length } := inv_startN (F := ⟨"__init__", qual, L2.defArgs st, L2.defBody st, L2.defScope st, [("__class__", cc)], cda⟩) S hr.hd e0 hl r cells hns kp
  refine ks_wpAt_execs_cons (ks_wpAt_Expr_any (ks_wpAt_MethodCall (pl := pl) ?_ (hpl _)) I.quiet (hsw _ _))
  have ho := exo_at I.hok ea
  obtain ⟨t1, ho⟩ := ho
  obtain ⟨mb, hb1, hb2⟩ := I.mod.blt
  have hD := I.kIn _ _ hC
  refine ks_wpAt_super_base hks kc rfl rfl (I.kIn _ _ lk) rfl hself rfl (I.kIn _ _ hcode) rfl hvs hfile F.top ?_
  refine PySem.W.ks_loadName_global S.kind hks (Calls.loadGlobal_builtin (I.mod.glob.keeps I.bk) hmg (hb1.keeps I.bk) ((hb2 _ (by decide)).trans (by first | boot_by_name | rfl | kernel_rfl)) ⟨rfl, ?_⟩)
  refine wpAny_loadName_free S.kind kc rfl ⟨_, I.kIn _ _ hcell, rfl⟩ ?_
  obtain ⟨m, hn, hlo⟩ := I.loc
  obtain ⟨u, ru, lku⟩ := hlo 0 ar.arg (.ref a) hN0 rfl (.inl hka)
  obtain rfl : u = Value.ref a := ru
  have hv : m ar.arg = some (Value.ref a) := by
    rcases lku with ⟨_, z⟩ | ⟨z, _⟩
    · exact z
    · have z' : (L2.defScope st).names.lookup ar.arg = some .cell ∨ (L2.defScope st).names.lookup ar.arg = some .free := z
      rw [hka] at z'; rcases z' with z' | z' <;> cases z'
  refine wpAny_loadName_local S.kind hka hn hv ?_
  refine ks_wpAny_isType_cls hD rfl ⟨rfl, ?_⟩
  refine ks_wpAny_call_super hD rfl ho rfl (fun c z => by cases z) (PySem.W.looks_mroIn I.kIn F.sub) (fun h' eso kk => ?_)
  have I1 := I.kept (t' := s.toks + (ps.zip us).length) kk
  have ho1 := kk _ _ ho
  have LT : PySem.W.Looks (model P w) h' (typeOf (.ref a)) (.ref D) := fun A Q E s k q => wpAny_typeOf_ref (k _ _ ho1) q
  have LI : PySem.W.Looks (model P w) h' (isInstance (.ref a) (.type "ValueError")) true := LT.andThen (PySem.W.looks_subIn I1.kIn F.subV)
  have ne : a ≠ D := fun z => by
    subst z
    rw [ho] at hD
    cases hD
  have hsup : PySem.W.alongIn K "__init__" (((Value.ref D :: bm).dropWhile (· != Value.ref D)).drop 1) = some (some (.builtin "ValueError.__init__")) := by
    have z := F.sup
    unfold PySem.W.ks_superIn at z
    rw [hcl] at z
    exact z
  refine PySem.W.kxs_getMethod PySem.W.kxs_ValueError eso (PySem.W.looks_opaque I1.kIn F.any) (l₀ := .ref D :: bm) (fun A Q E s k q => wpAny_bind ((PySem.W.looks_clsIn I1.kIn hcl) A _ E s k (wpAny_pure q))) rfl I1.kIn hsup LI ne rfl ?_
  have I2 := I1.kept (t' := s.toks + (ps.zip us).length + 1) (h' := h'.push (PySem.W.kxs_mw "ValueError.__init__" a)) (fun b o e => Heap.get?_push_of_some _ e)
  have gu : (h'.push (PySem.W.kxs_mw "ValueError.__init__" a)).get? h'.objs.size = some (PySem.W.kxs_mw "ValueError.__init__" a) := Heap.get?_push_size _ rfl
  have nl : h'.objs.size ≠ s.heap.objs.size := Nat.ne_of_gt I1.lt
  have I3 := inv_pin (p := (h'.objs.size, PySem.W.kxs_mw "ValueError.__init__" a)) I2 ⟨gu, I1.hok.fresh (Nat.le_refl _), nl, I1.nofs (Nat.le_refl _), fun v z => nomatch z⟩
  have hxr := fun pos => hx.run pos _ _ _ _ _ I3 hq
  have hsx' := hsx (envF ⟨"__init__", qual, L2.defArgs st, L2.defBody st, L2.defScope st, [("__class__", cc)], cda⟩ f s.heap.objs.size)
  show wpAny _ _ (callWith pos1 (.ref h'.objs.size) [] (backTo pos1 (starEach [x] (envF ⟨"__init__", qual, L2.defArgs st, L2.defBody st, L2.defScope st, [("__class__", cc)], cda⟩ f s.heap.objs.size))) []) _ _ _
  have hx1 := hxr pos1
  have hx2 : wpAny (model P w) (A.deeper (envF ⟨"__init__", qual, L2.defArgs st, L2.defBody st, L2.defScope st, [("__class__", cc)], cda⟩ f s.heap.objs.size)) (spliced (backTo pos1 (starEach [x] (envF ⟨"__init__", qual, L2.defArgs st, L2.defBody st, L2.defScope st, [("__class__", cc)], cda⟩ f s.heap.objs.size)))) _ _ _ := hx1
  rw [hsx'] at hx2 ⊢
  refine PySem.W.kxs_callWith (i := "ValueError.__init__") (x := a) rfl (Calls.evalArgs_plain (wpAny_mono hx2 (fun vv s1 hs1 => ?_) fun e s' z => z))
  obtain ⟨vs1, H1, J1, r1, hz, ea1, q1⟩ := hs1
  have pu := (J1.pin _ (List.mem_append_right _ List.mem_cons_self)).1
  refine ⟨pu, ?_⟩
  refine mw_call T J1 ea1 pu (by rw [List.nil_append, ← Paired.length r1, sizeLine_eq]; omega) fun s2 J2 => ?_
  refine wpAt_of_wpAny (wpAny_mono (hrest.run [] _ _ _ _ (inv_unpin J2) q1) (fun fl s' hs => ?_) fun e s' z => z)
  have fin : ∀ {σ' : L2.St} {H' : Hp} {v : V} {u : Value}, Inv (ncx CX P w K mg base N ⟨"__init__", qual, L2.defArgs st, L2.defBody st, L2.defScope st, [("__class__", cc)], cda⟩ f A outer s H E) [] σ' H' s' → RelV v u → Q v H' → CE outer P w H s Q u s' :=
    fun {σ' H' v u} J rv q => ⟨v, H', J.os, J.bare, J.base, J.hok, rv, q⟩
  cases fl with
  | ret u =>
    obtain ⟨v, σ', H', J, rv, q⟩ := hs
    exact fin J rv q
  | next =>
    obtain ⟨σ', H', J, q⟩ := hs
    exact fin (v := V.non) (u := Value.none) J rfl q
  | brk =>
    obtain ⟨_, _, _, q⟩ := hs
    exact False.elim q
  | cont =>
    obtain ⟨_, _, _, q⟩ := hs
    exact False.elim q
end Sw
namespace Sw
open PySem PySem.Spec PyProof.Rows L2 Evl LamX NdefX
/-! ### promises of defs that may raise -/
section
variable {P : Program} {w : World} {K : PySem.W.Frag} {mg : Str → Option Value} {base : Heap} {CX : CXT} {k : Nat} {f : Addr} {fd : FuncData} {ps : List Str} {sp sp' : Sp}
theorem fn_lift (F : FnOk P w K mg base L2.CX0 k f fd ps sp) : FnOk P w K mg base CX k f fd ps sp := ⟨F.len, fun A outer s H args us vs Q E hr e0 hb r h => codeAny_mono (F.run A outer s H args us vs Q E hr e0 hb r h) fun r s' hq => by
  match r, hq with
  | .error e, hq => exact (show False from hq).elim
  | .ok (.ret u), hq => exact hq
  | .ok .next, hq => exact (show False from hq).elim
  | .ok .brk, hq => exact (show False from hq).elim
  | .ok .cont, hq => exact (show False from hq).elim⟩
def spOr (a b : Sp) : Sp := fun vs H Q E => a vs H Q E ∨ b vs H Q E
theorem fn_or (F : FnOk P w K mg base CX k f fd ps sp) (G : FnOk P w K mg base CX k f fd ps sp') : FnOk P w K mg base CX k f fd ps (spOr sp sp') := ⟨fun vs H Q E h => h.elim (F.len vs H Q E) (G.len vs H Q E), fun A outer s H args us vs Q E hr e0 hb r h => h.elim (F.run A outer s H args us vs Q E hr e0 hb r) (G.run A outer s H args us vs Q E hr e0 hb r)⟩
end
/-! ### a call, within a try, of what goes with an address -/
def tCalS (P : Program) (w : World) (K : PySem.W.Frag) (mg : Str → Option Value) (base : Heap) (CX : CXT) (k i : Nat) (E : L2.St → XK) : TE := fun σ H Q => ∃ f sp S, σ[i]? = some (some (.ref f)) ∧ Cal P w K mg base CX k f sp S ∧ Ex S H ∧ sp [] H Q (E σ)
theorem pe_calS (P : Program) (w : World) (K : PySem.W.Frag) (mg : Str → Option Value) (base : Heap) {X : Cx} {CX : CXT} {i j k : Nat} {x : Str} {E : L2.St → XK} {p pos : Pos} (h1 : X.prog = P) (h2 : X.w = w) (h3 : X.K = K) (h4 : X.mg = mg) (h5 : X.base = base) (hr : Room j X.A) (hk : k ≤ j) (hx : ∀ σ, PassesAt CX X σ (E σ)) (hN : X.N[i]? = some x) (hv : Vis X.env.scope x)
    (hd : (x == ("__debug__" : Str)) = false := by decide) (hcd : (x == ("__classdict__" : Str)) = false := by decide) : PE X (.Call (.Name x p) [] [] pos) (tCalS P w K mg base CX k i E) := by
  subst h1 h2 h3 h4 h5
  refine ⟨fun pins s σ H Q I ⟨f, sp, S, hs, C, eS, q⟩ => ?_⟩
  refine wpAny_Call_Name_kw (thn ((pe_var (pos := p) hN hv hd hcd).run pins s σ H (fun v H1 => v = .ref f ∧ H1 = H) I ⟨.ref f, hs, rfl, rfl⟩) fun u s1 ⟨v, H1, I1, r1, ev, eH⟩ => ?_)
  subst ev eH
  obtain rfl : u = Value.ref f := r1
  refine PySem.W.callWith_F0 (first := []) (lam_fnAt I1 C eS) (wpAny_call (codeAny_mono (C.2 X.A X.stack s1 H1 [] [] Q (E σ) eS (hr.mono hk) I1.env0 .nil q) fun r s' hq => ?_))
  match r, hq with
  | .error e, hq => exact hx σ pins H1 s1 e s' I1 hq
  | .ok (.ret u), hq => exact I1.after hq
  | .ok .next, hq => exact False.elim hq
  | .ok .brk, hq => exact False.elim hq
  | .ok .cont, hq => exact False.elim hq
/-! ### isinstance of the caught exception -/
structure ExI (K : PySem.W.Frag) (C : Addr) : Prop where
  cl : (PySem.W.clsIn K C).isSome = true
  ga : PySem.W.findIn K (.ref C) "__getattribute__" = some (some (.builtin "BaseException.__getattribute__"))
  gg : PySem.W.findIn K (.ref C) "__getattr__" = some none
  ex : PySem.W.subIn K (.ref C) (.type "BaseException") = some true
  hd : PySem.W.hasDictIn K C = true
  ca : PySem.W.findIn K (.ref C) "__class__" = some (some (.builtin "object.__class__"))
  cg : PySem.W.specialIn K (.builtin "object.__class__") "__get__" = some (some (.builtin "getset_descriptor.__get__"))
  ct : PySem.W.takesIn K (.builtin "object.__class__") = some true
  mo : PySem.W.mroIn K C (.type "object") = some true
theorem ExI.xf {K : PySem.W.Frag} {C : Addr} (T : ExI K C) : XfC K C := ⟨T.ga, T.gg, T.ex, T.hd⟩
def rIsX (K : PySem.W.Frag) (a : Addr) (cls : Value) (d : Option Addr) : List V → Hp → VK → Prop := fun xs H Q => ∃ (D : Addr) (c : V) (cv : Value) (b : Bool), cls = .ref D ∧ ExI K D ∧ xs = [.ref a, c] ∧ (∀ u, RelV c u → u = cv) ∧ PySem.W.kitOne K (.ref D) cv = some b ∧ (∀ dd, d = some dd → ∃ fs, H dd = some (.xd fs)) ∧ Q (.bl b) H
theorem call_isX {X : Cx} (K : PySem.W.Frag) (hK : X.K = K) {a : Addr} {cls : Value} {d : Option Addr} {oe : Obj} {pn : List (Addr × Obj)} (hz : Zc cls d oe) (hf : ∃ vs, oe.data = .fields vs) : CallR (X.suite a ((a, oe) :: pn)) (.builtin "isinstance") (rIsX K a cls d) := by
  subst hK
  intro pins s σ H xs us Q I r h
  obtain ⟨D, c, cv, b, rfl, T, rfl, hcv, e, hd, q⟩ := h
  cases r with
  | cons rx rr =>
    cases rr with
    | cons rt rr =>
      cases rr
      cases rx
      have ec := hcv _ rt
      subst ec
      have hget := (I.pin (a, oe) (List.mem_append.mpr (.inl List.mem_cons_self))).1
      obtain ⟨fv, hv⟩ := hf
      obtain ⟨oc, od, oda, osl⟩ := oe
      obtain ⟨z1, z2⟩ := hz
      dsimp only at z1 z2 hv
      subst z1 z2 hv
      have go : ∀ o2, PySem.W.InstAt s.heap a ⟨.ref D, od, .fields fv, osl⟩ D o2 → wpAny (model X.prog X.w) (X.suite a ((a, ⟨.ref D, od, .fields fv, osl⟩) :: pn)).A (call (.builtin "isinstance") [.ref a, _]) (EP (X.suite a ((a, ⟨.ref D, od, .fields fv, osl⟩) :: pn)) pins σ Q) (X.suite a ((a, ⟨.ref D, od, .fields fv, osl⟩) :: pn)).xe s := fun o2 J =>
        PySem.W.kia_one (PySem.W.kitx_exc T.cl T.ga T.gg T.ex T.ca T.cg T.ct T.mo) I.kIn J e (fun z => nomatch z) fun tk => ⟨.bl b, H, I.kept (t' := tk) fun _ _ z => z, rfl, q⟩
      cases od with
      | none => exact go none ⟨hget, rfl, rfl, trivial⟩
      | some dd =>
        obtain ⟨fs, hfs⟩ := hd dd rfl
        obtain ⟨mA, hns, _⟩ := (I.hok dd _ hfs : ObjOk _ _ _ _ dd (.xd fs))
        obtain ⟨o, es, ep, ho, _⟩ := hns
        exact go (some o) ⟨hget, rfl, rfl, ho⟩
theorem ev_isX {K : PySem.W.Frag} {σ : L2.St} {H : Hp} {te tc : TE} {a D dd : Addr} {c : V} {cv : Value} {b : Bool} {fs : List (Str × V)} (T : ExI K D) (he : Ev te σ H (.ref a)) (hc : Ev tc σ H c) (hcv : ∀ u, RelV c u → u = cv) (hb : PySem.W.kitOne K (.ref D) cv = some b) (hd : H dd = some (.xd fs)) :
    Ev (tCB (rIsX K a (.ref D) (some dd)) (tCons te (tCons tc tNil))) σ H (.bl b) := fun H1 e Q q => he H1 e _ fun H2 e2 => hc H2 (e.trans e2) _ fun H3 e3 => ⟨D, c, cv, b, rfl, T, rfl, hcv, hb, fun d1 z => by cases z; exact ⟨fs, e3 _ _ (e2 _ _ (e _ _ hd))⟩, q H3 (e2.trans e3)⟩
/-! ### count and index of flat items -/
theorem eq_count {y : V} : ∀ {ys : List V} {us : List Value}, Vals ys us → ys.all flatV = true → us.countP (eqU y) = ys.countP (fun z => eqV z y)
  | _, _, .nil, _ => rfl
  | _, _, .cons (a := z) (b := u) r rs, f => by
    rw [List.all_cons, Bool.and_eq_true] at f
    rw [List.countP_cons, List.countP_cons, eq_count rs f.2, eqU_of r f.1]
def rCntF (K : PySem.W.Frag) : V → List V → Hp → VK → Prop := fun x xs H Q => ∃ (p : Addr) (ys : List V) (y : V), x = .ref p ∧ xs = [y] ∧ SqL K H p ys ∧ flatV y = true ∧ ys.all flatV = true ∧ Q (.int (ys.countP (fun z => eqV z y) : Nat)) H
theorem mt_lcountF {X : Cx} (K : PySem.W.Frag) (hK : X.K = K) : MtR X "list.count" (rCntF K) := by
  subst hK
  intro pins s σ H x xs v us Q I rx rxs ⟨p, ys, y, ex, exs, hs, fy, fys, q⟩
  subst ex exs
  cases rx
  obtain ⟨uy, rfl, ry⟩ := rxs.one
  obtain ⟨its, rv, ⟨⟨cls, dd, data, sl⟩, n, ho, hc, hdn, hd⟩, hlen⟩ := I.list hs
  simp only at hc hd
  subst hc hd
  refine call_meets PySem.F.slot_list_count ⟨_, ho, rfl⟩ PySem.F.entry_list_count (PySem.F.args_list_count_2 _ _) (SeqAt.list_countAt p its.toArray n dd sl uy (eqU y)) ⟨ho, fun u hu => mem_eqAt ry fy rv fys u (by simpa using hu), ?_⟩
  refine ⟨.int (ys.countP (fun z => eqV z y) : Nat), H, I.tok _, ⟨s.toks, ?_⟩, q⟩
  show Value.int ((its.toArray.toList.countP (eqU y) : Nat) : Int) s.toks = Value.int ((ys.countP (fun z => eqV z y) : Nat) : Int) s.toks
  rw [show its.toArray.toList = its from rfl, eq_count rv fys]
theorem mt_indexK {X : Cx} (K : PySem.W.Frag) (hK : X.K = K) : MtR X "list.index" (rIndex K) := by
  subst hK; exact mt_index
theorem pe_bmK {X : Cx} (K : PySem.W.Frag) {o e : Expr} {es : List Expr} {to : TE} {t : TA} {name : Str} {apos cpos : Pos} {Ty id : String} {r : V → List V → Hp → VK → Prop} (hK : X.K = K) (pa : PlainAttrs Ty) (slot : Slot Ty name id) (hty : typeOf (.builtin id) = pure (.type "method_descriptor")) (hm : MtR X id r) (ho : PE X o to) (ha : PA X (e :: es) t)
    (hbase : attributeBase o name X.env (eval o X.env) = eval o X.env := by rfl)
    (hfew : ((backTo cpos (starEach (e :: es) X.env)).all (fun x => !x.1) && (backToKw cpos (keywordEach [] X.env)).all (fun x => x.1.isSome) && decide ((e :: es).length + ([] : List Keyword).length + (if ([] : List Keyword).isEmpty then 0 else 1) < 30)) = true := by rfl)
    (hline : (apos.endLine == cpos.line) = true := by rfl) (hs : starEach (e :: es) X.env = (false, eval e X.env) :: starEach es X.env := by rfl) (hplain : (backTo cpos (starEach es X.env)).any (·.1) = false := by rfl) : PE X (.Call (.Attribute o name apos) (e :: es) [] cpos) (tBM K Ty r to t) := by
  subst hK; exact pe_bm pa slot hty hm ho ha hbase hfew hline hs hplain
end Sw
namespace Sw
open PySem PySem.Spec PyProof.Rows L2 Evl
/-! ### max and min of a list of numbers -/
section
variable {prog : Program} {w : World} {A : Around} {E : Value → Shared → Prop} {s : Shared} {t : Addr} {xs : Array (Int × Tok)}
theorem max_intLst {Q : Value → Shared → Prop} (hh : A.handled = none) (ht : s.heap.IsList t (intItems xs)) (hne : 0 < xs.size)
    (h : ∀ v h' tk, (intItems xs)[argBest (fun i j => decide (numAt xs i > numAt xs j)) (xs.size - 1)]? = some v → (∀ b o, s.heap.get? b = some o → h'.get? b = some o) → Q v { s with heap := h', toks := tk }) :
    wpAny (model prog w) A (call (.builtin "max") [.ref t]) Q E s := by
  obtain ⟨o, ho, _, _, _⟩ := id ht
  have hlt : t < s.heap.objs.size := Heap.lt_size ho
  have hne' : t ≠ s.heap.objs.size := Nat.ne_of_lt hlt
  refine call_max_walk (wpAny_pyIter_list ht ?_)
  refine ⟨_, _, _, _, _, _, _, rfl, Walks.list (A := A.in1) hh _ t hne' (intItems xs), ⟨⟨_, Heap.get?_push_size _ rfl, rfl, rfl⟩, ht.push _⟩, fun b hb => ?_, by simpa [intItems] using hne, CmpOf.ints_gt (numAt xs) (fun _ _ => intItems_at), fun v h' tk hP hk => ?_⟩
  · show b < (s.heap.push _).objs.size
    rw [Heap.size_push]
    rcases List.mem_cons.mp hb with rfl | hb
    · exact Nat.lt_succ_self _
    · rw [List.mem_singleton.mp hb]; exact Nat.lt_succ_of_lt hlt
  · refine h v h' tk (by simpa [intItems] using hP) fun b o e => hk b o (fun hm => ?_) (Heap.get?_push_of_some _ e)
    exact absurd (List.mem_singleton.mp hm ▸ Heap.lt_size e) (Nat.lt_irrefl _)
end
section
variable {X : Cx}
def rMaxLi (K : PySem.W.Frag) : List V → Hp → VK → Prop := fun vs H Q => ∃ (a : Addr) (ns : List Int), vs = [V.ref a] ∧ SqL K H a (ns.map V.int) ∧ 0 < ns.length ∧ ∀ m, m ∈ ns → (∀ y, y ∈ ns → y ≤ m) → Q (.int m) H
theorem cr_maxLi (hc : X.calm = true) : CallR X (.builtin "max") (rMaxLi X.K) := by
  intro pins s σ H vs us Q I r h
  obtain ⟨a, ns, rfl, hs, hne, q⟩ := h
  obtain ⟨its, rv, hl0, _⟩ := I.list hs
  rw [Vals.ref1 r]
  obtain ⟨xs, e⟩ := rv.ints.allInts.items
  have hn : numsOf (intItems xs).toList = ns := by rw [← e]; exact rv.ints.numsOf
  rw [nums_intItems] at hn
  subst hn
  have hl' : s.heap.IsList a (intItems xs) := by rw [← e]; exact hl0.isList
  have hsz : 0 < xs.size := by simpa using hne
  refine max_intLst (I.ok.hd hc) hl' hsz fun v h' tk hv hk => ?_
  obtain ⟨t', rfl⟩ := intItems_at hv
  obtain ⟨h1, h2⟩ := argBest_gt (numAt xs) (xs.size - 1)
  refine ⟨.int _, H, I.kept hk, ⟨t', rfl⟩, q _ ?_ fun y hy => ?_⟩
  · rw [numAt_eq]; exact PySem.getD_mem (by rw [List.length_map, Array.length_toList]; omega)
  · obtain ⟨j, hj, rfl⟩ := mem_getD hy
    rw [List.length_map, Array.length_toList] at hj
    rw [← numAt_eq]; exact h2 j (by omega)
end
section
variable {prog : Program} {w : World} {A : Around} {E : Value → Shared → Prop} {s : Shared} {t : Addr} {xs : Array (Int × Tok)}
theorem min_intLst {Q : Value → Shared → Prop} (hh : A.handled = none) (ht : s.heap.IsList t (intItems xs)) (hne : 0 < xs.size)
    (h : ∀ v h' tk, (intItems xs)[argBest (fun i j => decide (numAt xs i < numAt xs j)) (xs.size - 1)]? = some v → (∀ b o, s.heap.get? b = some o → h'.get? b = some o) → Q v { s with heap := h', toks := tk }) :
    wpAny (model prog w) A (call (.builtin "min") [.ref t]) Q E s := by
  obtain ⟨o, ho, _, _, _⟩ := id ht
  have hlt : t < s.heap.objs.size := Heap.lt_size ho
  have hne' : t ≠ s.heap.objs.size := Nat.ne_of_lt hlt
  refine call_min_walk (wpAny_pyIter_list ht ?_)
  refine ⟨_, _, _, _, _, _, _, rfl, Walks.list (A := A.in1) hh _ t hne' (intItems xs), ⟨⟨_, Heap.get?_push_size _ rfl, rfl, rfl⟩, ht.push _⟩, fun b hb => ?_, by simpa [intItems] using hne, CmpOf.ints_lt (numAt xs) (fun _ _ => intItems_at), fun v h' tk hP hk => ?_⟩
  · show b < (s.heap.push _).objs.size
    rw [Heap.size_push]
    rcases List.mem_cons.mp hb with rfl | hb
    · exact Nat.lt_succ_self _
    · rw [List.mem_singleton.mp hb]; exact Nat.lt_succ_of_lt hlt
  · refine h v h' tk (by simpa [intItems] using hP) fun b o e => hk b o (fun hm => ?_) (Heap.get?_push_of_some _ e)
    exact absurd (List.mem_singleton.mp hm ▸ Heap.lt_size e) (Nat.lt_irrefl _)
end
section
variable {X : Cx}
def rMinLi (K : PySem.W.Frag) : List V → Hp → VK → Prop := fun vs H Q => ∃ (a : Addr) (ns : List Int), vs = [V.ref a] ∧ SqL K H a (ns.map V.int) ∧ 0 < ns.length ∧ ∀ m, m ∈ ns → (∀ y, y ∈ ns → m ≤ y) → Q (.int m) H
theorem cr_minLi (hc : X.calm = true) : CallR X (.builtin "min") (rMinLi X.K) := by
  intro pins s σ H vs us Q I r h
  obtain ⟨a, ns, rfl, hs, hne, q⟩ := h
  obtain ⟨its, rv, hl0, _⟩ := I.list hs
  rw [Vals.ref1 r]
  obtain ⟨xs, e⟩ := rv.ints.allInts.items
  have hn : numsOf (intItems xs).toList = ns := by rw [← e]; exact rv.ints.numsOf
  rw [nums_intItems] at hn
  subst hn
  have hl' : s.heap.IsList a (intItems xs) := by rw [← e]; exact hl0.isList
  have hsz : 0 < xs.size := by simpa using hne
  refine min_intLst (I.ok.hd hc) hl' hsz fun v h' tk hv hk => ?_
  obtain ⟨t', rfl⟩ := intItems_at hv
  obtain ⟨h1, h2⟩ := argBest_lt (numAt xs) (xs.size - 1)
  refine ⟨.int _, H, I.kept hk, ⟨t', rfl⟩, q _ ?_ fun y hy => ?_⟩
  · rw [numAt_eq]; exact PySem.getD_mem (by rw [List.length_map, Array.length_toList]; omega)
  · obtain ⟨j, hj, rfl⟩ := mem_getD hy
    rw [List.length_map, Array.length_toList] at hj
    rw [← numAt_eq]; exact h2 j (by omega)
end
theorem ev_maxLi {K : PySem.W.Frag} {σ : L2.St} {H : Hp} {ta : TE} {a : Addr} {ns : List Int} {top : Int} (h : Ev ta σ H (.ref a)) (hx : SqL K H a (ns.map V.int)) (h0 : top ∈ ns) (h1 : ∀ y ∈ ns, y ≤ top) : Ev (tCB (rMaxLi K) (tCons ta tNil)) σ H (.int top) := fun H1 e Q q =>
  h H1 e _ fun H2 e2 => ⟨a, ns, rfl, ex_l (e.trans e2) hx, List.length_pos_of_mem h0, fun m hm hle => by
    have e : m = top := Int.le_antisymm (h1 m hm) (hle top h0)
    rw [e]; exact q H2 e2⟩
theorem ev_minLi {K : PySem.W.Frag} {σ : L2.St} {H : Hp} {ta : TE} {a : Addr} {ns : List Int} {bot : Int} (h : Ev ta σ H (.ref a)) (hx : SqL K H a (ns.map V.int)) (h0 : bot ∈ ns) (h1 : ∀ y ∈ ns, bot ≤ y) : Ev (tCB (rMinLi K) (tCons ta tNil)) σ H (.int bot) := fun H1 e Q q =>
  h H1 e _ fun H2 e2 => ⟨a, ns, rfl, ex_l (e.trans e2) hx, List.length_pos_of_mem h0, fun m hm hle => by
    have e : m = bot := Int.le_antisymm (hle bot h0) (h1 m hm)
    rw [e]; exact q H2 e2⟩
theorem ex_bot : ∀ {xs : List Int}, 0 < xs.length → ∃ t, t ∈ xs ∧ ∀ y ∈ xs, t ≤ y
  | [], h => absurd h (by decide)
  | [x], _ => ⟨x, by simp, by simp⟩
  | x :: y :: r, _ => by
    obtain ⟨t, ht, hm⟩ := ex_bot (xs := y :: r) (by simp)
    rcases Int.le_total x t with z | z
    · exact ⟨x, List.mem_cons_self, fun u hu => by rcases List.mem_cons.mp hu with e | e; omega; have := hm u e; omega⟩
    · exact ⟨t, List.mem_cons_of_mem _ ht, fun u hu => by rcases List.mem_cons.mp hu with e | e; omega; exact hm u e⟩
theorem ex_top : ∀ {xs : List Int}, 0 < xs.length → ∃ t, t ∈ xs ∧ ∀ y ∈ xs, y ≤ t
  | [], h => absurd h (by decide)
  | [x], _ => ⟨x, by simp, by simp⟩
  | x :: y :: r, _ => by
    obtain ⟨t, ht, hm⟩ := ex_top (xs := y :: r) (by simp)
    rcases Int.le_total x t with z | z
    · exact ⟨t, List.mem_cons_of_mem _ ht, fun u hu => by rcases List.mem_cons.mp hu with e | e; omega; exact hm u e⟩
    · exact ⟨x, List.mem_cons_self, fun u hu => by rcases List.mem_cons.mp hu with e | e; omega; have := hm u e; omega⟩
end Sw
namespace Sw
open PySem PySem.Spec PyProof.Rows L2 Evl
def topS (i : Nat) : Stmt := PySem.Challenge.pw_staleloaves_k10_numbers_out_of_range.main.body.getD i (.Pass ⟨0, 0, 0, 0⟩)
abbrev s_InvalidBakery___init__ : Stmt := inClass (topS 7) 0
abbrev n_InvalidBakery___init__ : List Str := ["self", "part", "index", "__class__"]
abbrev p_InvalidBakery___init__ : List Str := ["self", "part", "index"]
theorem sc_InvalidBakery___init__ : NdefX.NScope n_InvalidBakery___init__ p_InvalidBakery___init__ ["__class__"] (defScope s_InvalidBakery___init__) := NdefX.nscope_by (by decide +kernel)
abbrev s_InvalidDays___init__ : Stmt := inClass (topS 9) 0
abbrev n_InvalidDays___init__ : List Str := ["self", "index", "__class__"]
abbrev p_InvalidDays___init__ : List Str := ["self", "index"]
theorem sc_InvalidDays___init__ : NdefX.NScope n_InvalidDays___init__ p_InvalidDays___init__ ["__class__"] (defScope s_InvalidDays___init__) := NdefX.nscope_by (by decide +kernel)
abbrev s_check_number : Stmt := topS 14
abbrev n_check_number : List Str := ["number", "lowest", "highest"]
abbrev p_check_number : List Str := ["number", "lowest", "highest"]
theorem sc_check_number : FnScope n_check_number p_check_number (defScope s_check_number) := ⟨rfl, rfl, rfl, by decide +kernel, rfl, by decide +kernel, by decide +kernel⟩
abbrev s_count_keepable : Stmt := topS 3
abbrev n_count_keepable : List Str := ["bakes", "life", "length", "at", "age"]
abbrev p_count_keepable : List Str := ["bakes", "life"]
theorem sc_count_keepable : FnScope n_count_keepable p_count_keepable (defScope s_count_keepable) := ⟨rfl, rfl, rfl, by decide +kernel, rfl, by decide +kernel, by decide +kernel⟩
abbrev s_sum_repeated : Stmt := topS 2
abbrev n_sum_repeated : List Str := ["amounts", "days", "rounds", "rest"]
abbrev p_sum_repeated : List Str := ["amounts", "days"]
theorem sc_sum_repeated : FnScope n_sum_repeated p_sum_repeated (defScope s_sum_repeated) := ⟨rfl, rfl, rfl, by decide +kernel, rfl, by decide +kernel, by decide +kernel⟩
abbrev s_Course___init__ : Stmt := inClass (topS 4) 0
abbrev n_Course___init__ : List Str := ["self", "bakes", "demands", "life"]
abbrev p_Course___init__ : List Str := ["self", "bakes", "demands", "life"]
theorem sc_Course___init__ : FnScope n_Course___init__ p_Course___init__ (defScope s_Course___init__) := ⟨rfl, rfl, rfl, by decide +kernel, rfl, by decide +kernel, by decide +kernel⟩
abbrev s_Course_stock_at : Stmt := inClass (topS 4) 1
abbrev n_Course_stock_at : List Str := ["self", "day", "rounds", "at"]
abbrev p_Course_stock_at : List Str := ["self", "day"]
theorem sc_Course_stock_at : FnScope n_Course_stock_at p_Course_stock_at (defScope s_Course_stock_at) := ⟨rfl, rfl, rfl, by decide +kernel, rfl, by decide +kernel, by decide +kernel⟩
abbrev s_Course_sales_on : Stmt := inClass (topS 4) 2
abbrev n_Course_sales_on : List Str := ["self", "day", "rounds", "at", "stocks", "loaves", "sold"]
abbrev p_Course_sales_on : List Str := ["self", "day"]
theorem sc_Course_sales_on : FnScope n_Course_sales_on p_Course_sales_on (defScope s_Course_sales_on) := ⟨rfl, rfl, rfl, by decide +kernel, rfl, by decide +kernel, by decide +kernel⟩
abbrev s_Course_sales_before : Stmt := inClass (topS 4) 3
abbrev n_Course_sales_before : List Str := ["self", "days", "later", "missed", "sold"]
abbrev p_Course_sales_before : List Str := ["self", "days"]
theorem sc_Course_sales_before : FnScope n_Course_sales_before p_Course_sales_before (defScope s_Course_sales_before) := ⟨rfl, rfl, rfl, by decide +kernel, rfl, by decide +kernel, by decide +kernel⟩
abbrev s_Course_loaves_at : Stmt := inClass (topS 4) 4
abbrev n_Course_loaves_at : List Str := ["self", "day", "left", "baked", "found", "count"]
abbrev p_Course_loaves_at : List Str := ["self", "day"]
theorem sc_Course_loaves_at : FnScope n_Course_loaves_at p_Course_loaves_at (defScope s_Course_loaves_at) := ⟨rfl, rfl, rfl, by decide +kernel, rfl, by decide +kernel, by decide +kernel⟩
abbrev s_Course_find_settled : Stmt := inClass (topS 4) 5
abbrev n_Course_find_settled : List Str := ["self", "rounds", "stocks", "later", "at"]
abbrev p_Course_find_settled : List Str := ["self"]
theorem sc_Course_find_settled : FnScope n_Course_find_settled p_Course_find_settled (defScope s_Course_find_settled) := ⟨rfl, rfl, rfl, by decide +kernel, rfl, by decide +kernel, by decide +kernel⟩
abbrev s_Course_sum_settled_round : Stmt := inClass (topS 4) 6
abbrev n_Course_sum_settled_round : List Str := ["self", "missed", "sold"]
abbrev p_Course_sum_settled_round : List Str := ["self"]
theorem sc_Course_sum_settled_round : FnScope n_Course_sum_settled_round p_Course_sum_settled_round (defScope s_Course_sum_settled_round) := ⟨rfl, rfl, rfl, by decide +kernel, rfl, by decide +kernel, by decide +kernel⟩
abbrev s_Course__play_round : Stmt := inClass (topS 4) 7
abbrev n_Course__play_round : List Str := ["self", "stock", "stocks", "bake", "demand", "most", "left"]
abbrev p_Course__play_round : List Str := ["self", "stock"]
theorem sc_Course__play_round : FnScope n_Course__play_round p_Course__play_round (defScope s_Course__play_round) := ⟨rfl, rfl, rfl, by decide +kernel, rfl, by decide +kernel, by decide +kernel⟩
abbrev s_Course__stocks_in : Stmt := inClass (topS 4) 8
abbrev n_Course__stocks_in : List Str := ["self", "rounds", "start"]
abbrev p_Course__stocks_in : List Str := ["self", "rounds"]
theorem sc_Course__stocks_in : FnScope n_Course__stocks_in p_Course__stocks_in (defScope s_Course__stocks_in) := ⟨rfl, rfl, rfl, by decide +kernel, rfl, by decide +kernel, by decide +kernel⟩
abbrev s_Course__misses_in : Stmt := inClass (topS 4) 9
abbrev n_Course__misses_in : List Str := ["self", "rounds", "stocks", "at", "demand"]
abbrev p_Course__misses_in : List Str := ["self", "rounds"]
theorem sc_Course__misses_in : FnScope n_Course__misses_in p_Course__misses_in (defScope s_Course__misses_in) := ⟨rfl, rfl, rfl, by decide +kernel, rfl, by decide +kernel, by decide +kernel⟩
abbrev s_Course__count_growing : Stmt := inClass (topS 4) 10
abbrev n_Course__count_growing : List Str := ["self"]
abbrev p_Course__count_growing : List Str := ["self"]
theorem sc_Course__count_growing : FnScope n_Course__count_growing p_Course__count_growing (defScope s_Course__count_growing) := ⟨rfl, rfl, rfl, by decide +kernel, rfl, by decide +kernel, by decide +kernel⟩
abbrev s_check_amounts : Stmt := topS 16
abbrev n_check_amounts : List Str := ["part", "amounts", "at", "amount"]
abbrev p_check_amounts : List Str := ["part", "amounts"]
theorem sc_check_amounts : FnScope n_check_amounts p_check_amounts (defScope s_check_amounts) := ⟨rfl, rfl, rfl, by decide +kernel, rfl, by decide +kernel, by decide +kernel⟩
abbrev s_check_life : Stmt := topS 17
abbrev n_check_life : List Str := ["life"]
abbrev p_check_life : List Str := ["life"]
theorem sc_check_life : FnScope n_check_life p_check_life (defScope s_check_life) := ⟨rfl, rfl, rfl, by decide +kernel, rfl, by decide +kernel, by decide +kernel⟩
abbrev s_check_bakery : Stmt := topS 18
abbrev n_check_bakery : List Str := ["bakes", "demands", "life"]
abbrev p_check_bakery : List Str := ["bakes", "demands", "life"]
theorem sc_check_bakery : FnScope n_check_bakery p_check_bakery (defScope s_check_bakery) := ⟨rfl, rfl, rfl, by decide +kernel, rfl, by decide +kernel, by decide +kernel⟩
abbrev s_Bakery___init__ : Stmt := inClass (topS 19) 2
abbrev n_Bakery___init__ : List Str := ["self", "bakes", "demands", "life"]
abbrev p_Bakery___init__ : List Str := ["self", "bakes", "demands", "life"]
theorem sc_Bakery___init__ : FnScope n_Bakery___init__ p_Bakery___init__ (defScope s_Bakery___init__) := ⟨rfl, rfl, rfl, by decide +kernel, rfl, by decide +kernel, by decide +kernel⟩
abbrev s_Bakery_bakes : Stmt := inClass (topS 19) 3
abbrev n_Bakery_bakes : List Str := ["self"]
abbrev p_Bakery_bakes : List Str := ["self"]
theorem sc_Bakery_bakes : FnScope n_Bakery_bakes p_Bakery_bakes (defScope s_Bakery_bakes) := ⟨rfl, rfl, rfl, by decide +kernel, rfl, by decide +kernel, by decide +kernel⟩
abbrev s_Bakery_demands : Stmt := inClass (topS 19) 4
abbrev n_Bakery_demands : List Str := ["self"]
abbrev p_Bakery_demands : List Str := ["self"]
theorem sc_Bakery_demands : FnScope n_Bakery_demands p_Bakery_demands (defScope s_Bakery_demands) := ⟨rfl, rfl, rfl, by decide +kernel, rfl, by decide +kernel, by decide +kernel⟩
abbrev s_Bakery_life : Stmt := inClass (topS 19) 5
abbrev n_Bakery_life : List Str := ["self"]
abbrev p_Bakery_life : List Str := ["self"]
theorem sc_Bakery_life : FnScope n_Bakery_life p_Bakery_life (defScope s_Bakery_life) := ⟨rfl, rfl, rfl, by decide +kernel, rfl, by decide +kernel, by decide +kernel⟩
abbrev s_Bakery_settled_day : Stmt := inClass (topS 19) 6
abbrev n_Bakery_settled_day : List Str := ["self"]
abbrev p_Bakery_settled_day : List Str := ["self"]
theorem sc_Bakery_settled_day : FnScope n_Bakery_settled_day p_Bakery_settled_day (defScope s_Bakery_settled_day) := ⟨rfl, rfl, rfl, by decide +kernel, rfl, by decide +kernel, by decide +kernel⟩
abbrev s_Bakery_long_run : Stmt := inClass (topS 19) 7
abbrev n_Bakery_long_run : List Str := ["self"]
abbrev p_Bakery_long_run : List Str := ["self"]
theorem sc_Bakery_long_run : FnScope n_Bakery_long_run p_Bakery_long_run (defScope s_Bakery_long_run) := ⟨rfl, rfl, rfl, by decide +kernel, rfl, by decide +kernel, by decide +kernel⟩
abbrev s_Bakery_with_life : Stmt := inClass (topS 19) 8
abbrev n_Bakery_with_life : List Str := ["self", "life"]
abbrev p_Bakery_with_life : List Str := ["self", "life"]
theorem sc_Bakery_with_life : FnScope n_Bakery_with_life p_Bakery_with_life (defScope s_Bakery_with_life) := ⟨rfl, rfl, rfl, by decide +kernel, rfl, by decide +kernel, by decide +kernel⟩
abbrev s_Bakery_baking_more : Stmt := inClass (topS 19) 9
abbrev n_Bakery_baking_more : List Str := ["self", "count", "bake"]
abbrev p_Bakery_baking_more : List Str := ["self", "count"]
theorem sc_Bakery_baking_more : FnScope n_Bakery_baking_more p_Bakery_baking_more (defScope s_Bakery_baking_more) := ⟨rfl, rfl, rfl, by decide +kernel, rfl, by decide +kernel, by decide +kernel⟩
abbrev s_Bakery_stock : Stmt := inClass (topS 19) 10
abbrev n_Bakery_stock : List Str := ["self", "day"]
abbrev p_Bakery_stock : List Str := ["self", "day"]
theorem sc_Bakery_stock : FnScope n_Bakery_stock p_Bakery_stock (defScope s_Bakery_stock) := ⟨rfl, rfl, rfl, by decide +kernel, rfl, by decide +kernel, by decide +kernel⟩
abbrev s_Bakery_sold : Stmt := inClass (topS 19) 11
abbrev n_Bakery_sold : List Str := ["self", "day"]
abbrev p_Bakery_sold : List Str := ["self", "day"]
theorem sc_Bakery_sold : FnScope n_Bakery_sold p_Bakery_sold (defScope s_Bakery_sold) := ⟨rfl, rfl, rfl, by decide +kernel, rfl, by decide +kernel, by decide +kernel⟩
abbrev s_Bakery_missed : Stmt := inClass (topS 19) 12
abbrev n_Bakery_missed : List Str := ["self", "day"]
abbrev p_Bakery_missed : List Str := ["self", "day"]
theorem sc_Bakery_missed : FnScope n_Bakery_missed p_Bakery_missed (defScope s_Bakery_missed) := ⟨rfl, rfl, rfl, by decide +kernel, rfl, by decide +kernel, by decide +kernel⟩
abbrev s_Bakery_thrown : Stmt := inClass (topS 19) 13
abbrev n_Bakery_thrown : List Str := ["self", "day"]
abbrev p_Bakery_thrown : List Str := ["self", "day"]
theorem sc_Bakery_thrown : FnScope n_Bakery_thrown p_Bakery_thrown (defScope s_Bakery_thrown) := ⟨rfl, rfl, rfl, by decide +kernel, rfl, by decide +kernel, by decide +kernel⟩
abbrev s_Bakery_totals : Stmt := inClass (topS 19) 14
abbrev n_Bakery_totals : List Str := ["self", "days"]
abbrev p_Bakery_totals : List Str := ["self", "days"]
theorem sc_Bakery_totals : FnScope n_Bakery_totals p_Bakery_totals (defScope s_Bakery_totals) := ⟨rfl, rfl, rfl, by decide +kernel, rfl, by decide +kernel, by decide +kernel⟩
abbrev s_Bakery_shelf : Stmt := inClass (topS 19) 15
abbrev n_Bakery_shelf : List Str := ["self", "day"]
abbrev p_Bakery_shelf : List Str := ["self", "day"]
theorem sc_Bakery_shelf : FnScope n_Bakery_shelf p_Bakery_shelf (defScope s_Bakery_shelf) := ⟨rfl, rfl, rfl, by decide +kernel, rfl, by decide +kernel, by decide +kernel⟩
abbrev s_sell_in_order : Stmt := topS 22
abbrev n_sell_in_order : List Str := ["counts", "customers", "left", "count", "taken"]
abbrev p_sell_in_order : List Str := ["counts", "customers"]
theorem sc_sell_in_order : FnScope n_sell_in_order p_sell_in_order (defScope s_sell_in_order) := ⟨rfl, rfl, rfl, by decide +kernel, rfl, by decide +kernel, by decide +kernel⟩
abbrev s_newest_first : Stmt := topS 23
abbrev n_newest_first : List Str := ["bakery", "days", "sold", "missed", "thrown", "left", "day", "at", "counts", "served"]
abbrev p_newest_first : List Str := ["bakery", "days"]
theorem sc_newest_first : FnScope n_newest_first p_newest_first (defScope s_newest_first) := ⟨rfl, rfl, rfl, by decide +kernel, rfl, by decide +kernel, by decide +kernel⟩
abbrev s_find_loss : Stmt := topS 30
abbrev n_find_loss : List Str := ["bakery", "place", "first", "days", "day"]
abbrev p_find_loss : List Str := ["bakery", "place", "first", "days"]
theorem sc_find_loss : FnScope n_find_loss p_find_loss (defScope s_find_loss) := ⟨rfl, rfl, rfl, by decide +kernel, rfl, by decide +kernel, by decide +kernel⟩
abbrev s_next_missed : Stmt := topS 28
abbrev n_next_missed : List Str := ["bakery", "day"]
abbrev p_next_missed : List Str := ["bakery", "day"]
theorem sc_next_missed : FnScope n_next_missed p_next_missed (defScope s_next_missed) := ⟨rfl, rfl, rfl, by decide +kernel, rfl, by decide +kernel, by decide +kernel⟩
abbrev s_next_thrown : Stmt := topS 29
abbrev n_next_thrown : List Str := ["bakery", "day", "first"]
abbrev p_next_thrown : List Str := ["bakery", "day"]
theorem sc_next_thrown : FnScope n_next_thrown p_next_thrown (defScope s_next_thrown) := ⟨rfl, rfl, rfl, by decide +kernel, rfl, by decide +kernel, by decide +kernel⟩
abbrev s_least_life : Stmt := topS 31
abbrev n_least_life : List Str := ["bakery", "missed", "life"]
abbrev p_least_life : List Str := ["bakery", "missed"]
theorem sc_least_life : FnScope n_least_life p_least_life (defScope s_least_life) := ⟨rfl, rfl, rfl, by decide +kernel, rfl, by decide +kernel, by decide +kernel⟩
abbrev s_least_baking : Stmt := topS 32
abbrev n_least_baking : List Str := ["bakery", "missed", "low", "high", "middle"]
abbrev p_least_baking : List Str := ["bakery", "missed"]
theorem sc_least_baking : FnScope n_least_baking p_least_baking (defScope s_least_baking) := ⟨rfl, rfl, rfl, by decide +kernel, rfl, by decide +kernel, by decide +kernel⟩
abbrev s_LifeObserver___init__ : Stmt := inClass (topS 34) 0
abbrev n_LifeObserver___init__ : List Str := ["self", "bakes", "demands", "life"]
abbrev p_LifeObserver___init__ : List Str := ["self", "bakes", "demands"]
theorem sc_LifeObserver___init__ : FnScope n_LifeObserver___init__ p_LifeObserver___init__ (defScope s_LifeObserver___init__) := ⟨rfl, rfl, rfl, by decide +kernel, rfl, by decide +kernel, by decide +kernel⟩
abbrev s_LifeObserver_records : Stmt := inClass (topS 34) 2
abbrev n_LifeObserver_records : List Str := ["self"]
abbrev p_LifeObserver_records : List Str := ["self"]
theorem sc_LifeObserver_records : FnScope n_LifeObserver_records p_LifeObserver_records (defScope s_LifeObserver_records) := ⟨rfl, rfl, rfl, by decide +kernel, rfl, by decide +kernel, by decide +kernel⟩
abbrev s_LifeObserver_see_sold : Stmt := inClass (topS 34) 3
abbrev n_LifeObserver_see_sold : List Str := ["self", "day", "number", "bakery"]
abbrev p_LifeObserver_see_sold : List Str := ["self", "day", "number"]
theorem sc_LifeObserver_see_sold : FnScope n_LifeObserver_see_sold p_LifeObserver_see_sold (defScope s_LifeObserver_see_sold) := ⟨rfl, rfl, rfl, by decide +kernel, rfl, by decide +kernel, by decide +kernel⟩
abbrev s_LifeObserver_see_thrown : Stmt := inClass (topS 34) 4
abbrev n_LifeObserver_see_thrown : List Str := ["self", "day", "number", "bakery"]
abbrev p_LifeObserver_see_thrown : List Str := ["self", "day", "number"]
theorem sc_LifeObserver_see_thrown : FnScope n_LifeObserver_see_thrown p_LifeObserver_see_thrown (defScope s_LifeObserver_see_thrown) := ⟨rfl, rfl, rfl, by decide +kernel, rfl, by decide +kernel, by decide +kernel⟩
abbrev s_LifeObserver_see_stock : Stmt := inClass (topS 34) 5
abbrev n_LifeObserver_see_stock : List Str := ["self", "day", "number", "bakery"]
abbrev p_LifeObserver_see_stock : List Str := ["self", "day", "number"]
theorem sc_LifeObserver_see_stock : FnScope n_LifeObserver_see_stock p_LifeObserver_see_stock (defScope s_LifeObserver_see_stock) := ⟨rfl, rfl, rfl, by decide +kernel, rfl, by decide +kernel, by decide +kernel⟩
abbrev s_LifeObserver__accept : Stmt := inClass (topS 34) 7
abbrev n_LifeObserver__accept : List Str := ["self", "kind", "day", "number", "expected", "fitting", "bakery", "one"]
abbrev p_LifeObserver__accept : List Str := ["self", "kind", "day", "number", "expected"]
theorem sc_LifeObserver__accept : FnScope n_LifeObserver__accept p_LifeObserver__accept (defScope s_LifeObserver__accept) := ⟨rfl, rfl, rfl, by decide +kernel, rfl, by decide +kernel, by decide +kernel⟩
abbrev s__law_mix : Stmt := topS 36
abbrev n__law_mix : List Str := ["_law_script", "_law_seed", "_law_mixed", "_law_cell"]
abbrev p__law_mix : List Str := ["_law_script", "_law_seed"]
theorem sc__law_mix : FnScope n__law_mix p__law_mix (defScope s__law_mix) := ⟨rfl, rfl, rfl, by decide +kernel, rfl, by decide +kernel, by decide +kernel⟩
abbrev s__law_next : Stmt := topS 37
abbrev n__law_next : List Str := ["_law_h", "_law_limit", "_law_cell"]
abbrev p__law_next : List Str := ["_law_h", "_law_limit"]
theorem sc__law_next : FnScope n__law_next p__law_next (defScope s__law_next) := ⟨rfl, rfl, rfl, by decide +kernel, rfl, by decide +kernel, by decide +kernel⟩
abbrev s__law_error : Stmt := topS 38
abbrev n__law_error : List Str := ["_law_call", "e", "_law_kinds", "_law_name"]
abbrev p__law_error : List Str := ["_law_call"]
theorem sc__law_error : FnScope n__law_error p__law_error (defScope s__law_error) := ⟨rfl, rfl, rfl, by decide +kernel, rfl, by decide +kernel, by decide +kernel⟩
abbrev s__law_amounts : Stmt := topS 39
abbrev n__law_amounts : List Str := ["_law_h", "_law_count", "_law_wide", "_law_k"]
abbrev p__law_amounts : List Str := ["_law_h", "_law_count", "_law_wide"]
theorem sc__law_amounts : FnScope n__law_amounts p__law_amounts (defScope s__law_amounts) := ⟨rfl, rfl, rfl, by decide +kernel, rfl, by decide +kernel, by decide +kernel⟩
abbrev s__law_parts : Stmt := topS 40
abbrev n__law_parts : List Str := ["_law_h", "_law_most", "_law_wide", "_law_count", "_law_bakes", "_law_demands", "_law_k", "_law_more"]
abbrev p__law_parts : List Str := ["_law_h", "_law_most", "_law_wide"]
theorem sc__law_parts : FnScope n__law_parts p__law_parts (defScope s__law_parts) := ⟨rfl, rfl, rfl, by decide +kernel, rfl, by decide +kernel, by decide +kernel⟩
abbrev s_law : Stmt := topS 41
abbrev n_law : List Str := ["_law_script", "_law_h", "_law_turn", "_law_life", "_law_some", "_law_due", "_law_works", "_law_bakery", "_law_bakes", "_law_demands", "_law_far", "_law_number", "_law_observer", "_law_call"]
abbrev p_law : List Str := ["_law_script"]
theorem sc_law : FnScope n_law p_law (defScope s_law) := ⟨rfl, rfl, rfl, by decide +kernel, rfl, by decide +kernel, by decide +kernel⟩
structure Ad where
  c_Course : Addr
  c_Bakery : Addr
  c_LifeObserver : Addr
  mc_Course : Value
  mc_Bakery : Value
  mc_LifeObserver : Value
  pr_Bakery_bakes : Addr
  pr_Bakery_demands : Addr
  pr_Bakery_life : Addr
  pr_Bakery_settled_day : Addr
  pr_Bakery_long_run : Addr
  pr_LifeObserver_records : Addr
  t_MOST_LOAVES : Tok
  t_LAST_DAY : Tok
  t_MOST_NEWEST_DAYS : Tok
  t_MOST_MISSED : Tok
  t_MISSED : Tok
  t_THROWN : Tok
  f_InvalidBakery___init__ : Addr
  d_InvalidBakery___init__ : FuncData
  f_InvalidDays___init__ : Addr
  d_InvalidDays___init__ : FuncData
  f_check_number : Addr
  d_check_number : FuncData
  f_count_keepable : Addr
  d_count_keepable : FuncData
  f_sum_repeated : Addr
  d_sum_repeated : FuncData
  f_Course___init__ : Addr
  d_Course___init__ : FuncData
  f_Course_stock_at : Addr
  d_Course_stock_at : FuncData
  f_Course_sales_on : Addr
  d_Course_sales_on : FuncData
  f_Course_sales_before : Addr
  d_Course_sales_before : FuncData
  f_Course_loaves_at : Addr
  d_Course_loaves_at : FuncData
  f_Course_find_settled : Addr
  d_Course_find_settled : FuncData
  f_Course_sum_settled_round : Addr
  d_Course_sum_settled_round : FuncData
  f_Course__play_round : Addr
  d_Course__play_round : FuncData
  f_Course__stocks_in : Addr
  d_Course__stocks_in : FuncData
  f_Course__misses_in : Addr
  d_Course__misses_in : FuncData
  f_Course__count_growing : Addr
  d_Course__count_growing : FuncData
  f_check_amounts : Addr
  d_check_amounts : FuncData
  f_check_life : Addr
  d_check_life : FuncData
  f_check_bakery : Addr
  d_check_bakery : FuncData
  f_Bakery___init__ : Addr
  d_Bakery___init__ : FuncData
  f_Bakery_bakes : Addr
  d_Bakery_bakes : FuncData
  f_Bakery_demands : Addr
  d_Bakery_demands : FuncData
  f_Bakery_life : Addr
  d_Bakery_life : FuncData
  f_Bakery_settled_day : Addr
  d_Bakery_settled_day : FuncData
  f_Bakery_long_run : Addr
  d_Bakery_long_run : FuncData
  f_Bakery_with_life : Addr
  d_Bakery_with_life : FuncData
  f_Bakery_baking_more : Addr
  d_Bakery_baking_more : FuncData
  f_Bakery_stock : Addr
  d_Bakery_stock : FuncData
  f_Bakery_sold : Addr
  d_Bakery_sold : FuncData
  f_Bakery_missed : Addr
  d_Bakery_missed : FuncData
  f_Bakery_thrown : Addr
  d_Bakery_thrown : FuncData
  f_Bakery_totals : Addr
  d_Bakery_totals : FuncData
  f_Bakery_shelf : Addr
  d_Bakery_shelf : FuncData
  f_sell_in_order : Addr
  d_sell_in_order : FuncData
  f_newest_first : Addr
  d_newest_first : FuncData
  f_find_loss : Addr
  d_find_loss : FuncData
  f_next_missed : Addr
  d_next_missed : FuncData
  f_next_thrown : Addr
  d_next_thrown : FuncData
  f_least_life : Addr
  d_least_life : FuncData
  f_least_baking : Addr
  d_least_baking : FuncData
  f_LifeObserver___init__ : Addr
  d_LifeObserver___init__ : FuncData
  f_LifeObserver_records : Addr
  d_LifeObserver_records : FuncData
  f_LifeObserver_see_sold : Addr
  d_LifeObserver_see_sold : FuncData
  f_LifeObserver_see_thrown : Addr
  d_LifeObserver_see_thrown : FuncData
  f_LifeObserver_see_stock : Addr
  d_LifeObserver_see_stock : FuncData
  f_LifeObserver__accept : Addr
  d_LifeObserver__accept : FuncData
  f__law_mix : Addr
  d__law_mix : FuncData
  f__law_next : Addr
  d__law_next : FuncData
  f__law_error : Addr
  d__law_error : FuncData
  f__law_amounts : Addr
  d__law_amounts : FuncData
  f__law_parts : Addr
  d__law_parts : FuncData
  f_law : Addr
  d_law : FuncData
  k_law : Addr
  tb_law : Addr
  P : Program
  c_LoafError : Addr
  c_InvalidBakery : Addr
  c_InvalidNumber : Addr
  c_InvalidDays : Addr
  c_Contradiction : Addr
  k_InvalidBakery___init__ : Addr
  k_InvalidDays___init__ : Addr
  cc_InvalidBakery___init__ : Addr
  cc_InvalidDays___init__ : Addr
structure Txt (K : PySem.W.Frag) (mg : Str → Option Value) (Z : Ad) : Prop where
  cl_Course : Cls K Z.c_Course
  g_Course : mg "Course" = some (.ref Z.c_Course)
  mk_Course : Mk K Z.c_Course Z.f_Course___init__
  na_Course__bakes : NoAttr K Z.c_Course "_bakes"
  na_Course__demands : NoAttr K Z.c_Course "_demands"
  na_Course__keepable : NoAttr K Z.c_Course "_keepable"
  na_Course__gain : NoAttr K Z.c_Course "_gain"
  na_Course__first_end : NoAttr K Z.c_Course "_first_end"
  na_Course__full_end : NoAttr K Z.c_Course "_full_end"
  na_Course__first_misses : NoAttr K Z.c_Course "_first_misses"
  na_Course__later_misses : NoAttr K Z.c_Course "_later_misses"
  cl_Bakery : Cls K Z.c_Bakery
  g_Bakery : mg "Bakery" = some (.ref Z.c_Bakery)
  mk_Bakery : Mk K Z.c_Bakery Z.f_Bakery___init__
  na_Bakery__bakes : NoAttr K Z.c_Bakery "_bakes"
  na_Bakery__demands : NoAttr K Z.c_Bakery "_demands"
  na_Bakery__life : NoAttr K Z.c_Bakery "_life"
  na_Bakery_course : NoAttr K Z.c_Bakery "course"
  na_Bakery__settled_day : NoAttr K Z.c_Bakery "_settled_day"
  na_Bakery__long_run : NoAttr K Z.c_Bakery "_long_run"
  cv_Bakery_MAX_DAYS : ClX.CRead K Z.c_Bakery Z.mc_Bakery ∧ ∃ u, ClX.CVal K Z.c_Bakery Z.mc_Bakery "MAX_DAYS" (.int 24) u
  cn_Bakery_MAX_LIFE : ∃ u, Con K Z.c_Bakery "MAX_LIFE" (.int 30) u
  cv_Bakery_MAX_LIFE : ClX.CRead K Z.c_Bakery Z.mc_Bakery ∧ ∃ u, ClX.CVal K Z.c_Bakery Z.mc_Bakery "MAX_LIFE" (.int 30) u
  cl_LifeObserver : Cls K Z.c_LifeObserver
  g_LifeObserver : mg "LifeObserver" = some (.ref Z.c_LifeObserver)
  mk_LifeObserver : Mk K Z.c_LifeObserver Z.f_LifeObserver___init__
  na_LifeObserver__fitting : NoAttr K Z.c_LifeObserver "_fitting"
  na_LifeObserver__accepted : NoAttr K Z.c_LifeObserver "_accepted"
  g_MOST_LOAVES : mg "MOST_LOAVES" = some (.int 1000000000 Z.t_MOST_LOAVES)
  g_LAST_DAY : mg "LAST_DAY" = some (.int 1000000000000000000 Z.t_LAST_DAY)
  g_MOST_NEWEST_DAYS : mg "MOST_NEWEST_DAYS" = some (.int 1000 Z.t_MOST_NEWEST_DAYS)
  g_MOST_MISSED : mg "MOST_MISSED" = some (.int 1000000000000 Z.t_MOST_MISSED)
  g_MISSED : mg "MISSED" = some (.int 1 Z.t_MISSED)
  g_THROWN : mg "THROWN" = some (.int 2 Z.t_THROWN)
  b_ValueError : mg "ValueError" = none
  b_divmod : mg "divmod" = none
  b_enumerate : mg "enumerate" = none
  b_int : mg "int" = none
  b_isinstance : mg "isinstance" = none
  b_len : mg "len" = none
  b_list : mg "list" = none
  b_max : mg "max" = none
  b_min : mg "min" = none
  b_range : mg "range" = none
  b_sum : mg "sum" = none
  b_super : mg "super" = none
  b_tuple : mg "tuple" = none
  b_zip : mg "zip" = none
  g_LoafError : mg "LoafError" = some (.ref Z.c_LoafError)
  g_InvalidBakery : mg "InvalidBakery" = some (.ref Z.c_InvalidBakery)
  g_InvalidNumber : mg "InvalidNumber" = some (.ref Z.c_InvalidNumber)
  g_InvalidDays : mg "InvalidDays" = some (.ref Z.c_InvalidDays)
  g_Contradiction : mg "Contradiction" = some (.ref Z.c_Contradiction)
  xp_InvalidNumber : PySem.W.excIn K Z.c_InvalidNumber [.type "ValueError", .type "Exception", .type "BaseException", .type "object"] "ValueError.__new__" = true
  xq_InvalidNumber : PySem.W.keepIn K (.ref Z.c_InvalidNumber) = true
  xb_InvalidNumber : PySem.W.subIn K (.ref Z.c_InvalidNumber) (.type "BaseException") = some true
  xy_InvalidNumber : PySem.W.typeIn K (.ref Z.c_InvalidNumber) = some (.type "type")
  xI_InvalidNumber : ExI K Z.c_InvalidNumber
  xm_InvalidNumber : PySem.W.exmOne K (.ref Z.c_InvalidNumber) (.ref Z.c_LoafError) = some true
  xv_InvalidNumber : PySem.W.kitOne K (.ref Z.c_InvalidNumber) (.type "ValueError") = some true
  xk_InvalidNumber_InvalidBakery : PySem.W.kitOne K (.ref Z.c_InvalidNumber) (.ref Z.c_InvalidBakery) = some false
  xk_InvalidNumber_InvalidNumber : PySem.W.kitOne K (.ref Z.c_InvalidNumber) (.ref Z.c_InvalidNumber) = some true
  xk_InvalidNumber_InvalidDays : PySem.W.kitOne K (.ref Z.c_InvalidNumber) (.ref Z.c_InvalidDays) = some false
  xk_InvalidNumber_Contradiction : PySem.W.kitOne K (.ref Z.c_InvalidNumber) (.ref Z.c_Contradiction) = some false
  xp_Contradiction : PySem.W.excIn K Z.c_Contradiction [.type "ValueError", .type "Exception", .type "BaseException", .type "object"] "ValueError.__new__" = true
  xq_Contradiction : PySem.W.keepIn K (.ref Z.c_Contradiction) = true
  xb_Contradiction : PySem.W.subIn K (.ref Z.c_Contradiction) (.type "BaseException") = some true
  xy_Contradiction : PySem.W.typeIn K (.ref Z.c_Contradiction) = some (.type "type")
  xI_Contradiction : ExI K Z.c_Contradiction
  xm_Contradiction : PySem.W.exmOne K (.ref Z.c_Contradiction) (.ref Z.c_LoafError) = some true
  xv_Contradiction : PySem.W.kitOne K (.ref Z.c_Contradiction) (.type "ValueError") = some true
  xk_Contradiction_InvalidBakery : PySem.W.kitOne K (.ref Z.c_Contradiction) (.ref Z.c_InvalidBakery) = some false
  xk_Contradiction_InvalidNumber : PySem.W.kitOne K (.ref Z.c_Contradiction) (.ref Z.c_InvalidNumber) = some false
  xk_Contradiction_InvalidDays : PySem.W.kitOne K (.ref Z.c_Contradiction) (.ref Z.c_InvalidDays) = some false
  xk_Contradiction_Contradiction : PySem.W.kitOne K (.ref Z.c_Contradiction) (.ref Z.c_Contradiction) = some true
  ox_InvalidBakery : OexC K Z.c_InvalidBakery
  xi_InvalidBakery : PySem.W.findIn K (.ref Z.c_InvalidBakery) "__init__" = some (some (.ref Z.f_InvalidBakery___init__))
  xt_InvalidBakery : PySem.W.typeIn K (.ref Z.f_InvalidBakery___init__) = some (.type "function")
  xs_InvalidBakery : SupF Z.P K "InvalidBakery.__init__" s_InvalidBakery___init__ Z.f_InvalidBakery___init__ Z.d_InvalidBakery___init__ Z.k_InvalidBakery___init__ Z.cc_InvalidBakery___init__ Z.c_InvalidBakery
  xI_InvalidBakery : ExI K Z.c_InvalidBakery
  xm_InvalidBakery : PySem.W.exmOne K (.ref Z.c_InvalidBakery) (.ref Z.c_LoafError) = some true
  xv_InvalidBakery : PySem.W.kitOne K (.ref Z.c_InvalidBakery) (.type "ValueError") = some true
  xk_InvalidBakery_InvalidBakery : PySem.W.kitOne K (.ref Z.c_InvalidBakery) (.ref Z.c_InvalidBakery) = some true
  xk_InvalidBakery_InvalidNumber : PySem.W.kitOne K (.ref Z.c_InvalidBakery) (.ref Z.c_InvalidNumber) = some false
  xk_InvalidBakery_InvalidDays : PySem.W.kitOne K (.ref Z.c_InvalidBakery) (.ref Z.c_InvalidDays) = some false
  xk_InvalidBakery_Contradiction : PySem.W.kitOne K (.ref Z.c_InvalidBakery) (.ref Z.c_Contradiction) = some false
  na_InvalidBakery_part : PySem.W.findIn K (.ref Z.c_InvalidBakery) "part" = some none
  na_InvalidBakery_index : PySem.W.findIn K (.ref Z.c_InvalidBakery) "index" = some none
  b_InvalidBakery___init__ : Binds K Z.d_InvalidBakery___init__ p_InvalidBakery___init__ []
  ox_InvalidDays : OexC K Z.c_InvalidDays
  xi_InvalidDays : PySem.W.findIn K (.ref Z.c_InvalidDays) "__init__" = some (some (.ref Z.f_InvalidDays___init__))
  xt_InvalidDays : PySem.W.typeIn K (.ref Z.f_InvalidDays___init__) = some (.type "function")
  xs_InvalidDays : SupF Z.P K "InvalidDays.__init__" s_InvalidDays___init__ Z.f_InvalidDays___init__ Z.d_InvalidDays___init__ Z.k_InvalidDays___init__ Z.cc_InvalidDays___init__ Z.c_InvalidDays
  xI_InvalidDays : ExI K Z.c_InvalidDays
  xm_InvalidDays : PySem.W.exmOne K (.ref Z.c_InvalidDays) (.ref Z.c_LoafError) = some true
  xv_InvalidDays : PySem.W.kitOne K (.ref Z.c_InvalidDays) (.type "ValueError") = some true
  xk_InvalidDays_InvalidBakery : PySem.W.kitOne K (.ref Z.c_InvalidDays) (.ref Z.c_InvalidBakery) = some false
  xk_InvalidDays_InvalidNumber : PySem.W.kitOne K (.ref Z.c_InvalidDays) (.ref Z.c_InvalidNumber) = some false
  xk_InvalidDays_InvalidDays : PySem.W.kitOne K (.ref Z.c_InvalidDays) (.ref Z.c_InvalidDays) = some true
  xk_InvalidDays_Contradiction : PySem.W.kitOne K (.ref Z.c_InvalidDays) (.ref Z.c_Contradiction) = some false
  na_InvalidDays_index : PySem.W.findIn K (.ref Z.c_InvalidDays) "index" = some none
  b_InvalidDays___init__ : Binds K Z.d_InvalidDays___init__ p_InvalidDays___init__ []
  F_check_number : Fun K "check_number" "check_number" s_check_number Z.f_check_number Z.d_check_number
  b_check_number : Binds K Z.d_check_number p_check_number []
  g_check_number : mg "check_number" = some (.ref Z.f_check_number)
  F_count_keepable : Fun K "count_keepable" "count_keepable" s_count_keepable Z.f_count_keepable Z.d_count_keepable
  b_count_keepable : Binds K Z.d_count_keepable p_count_keepable []
  g_count_keepable : mg "count_keepable" = some (.ref Z.f_count_keepable)
  F_sum_repeated : Fun K "sum_repeated" "sum_repeated" s_sum_repeated Z.f_sum_repeated Z.d_sum_repeated
  b_sum_repeated : Binds K Z.d_sum_repeated p_sum_repeated []
  g_sum_repeated : mg "sum_repeated" = some (.ref Z.f_sum_repeated)
  F_Course___init__ : Fun K "__init__" "Course.__init__" s_Course___init__ Z.f_Course___init__ Z.d_Course___init__
  b_Course___init__ : Binds K Z.d_Course___init__ p_Course___init__ []
  F_Course_stock_at : Fun K "stock_at" "Course.stock_at" s_Course_stock_at Z.f_Course_stock_at Z.d_Course_stock_at
  b_Course_stock_at : Binds K Z.d_Course_stock_at p_Course_stock_at []
  m_Course_stock_at : Meth K Z.c_Course "stock_at" Z.f_Course_stock_at
  F_Course_sales_on : Fun K "sales_on" "Course.sales_on" s_Course_sales_on Z.f_Course_sales_on Z.d_Course_sales_on
  b_Course_sales_on : Binds K Z.d_Course_sales_on p_Course_sales_on []
  m_Course_sales_on : Meth K Z.c_Course "sales_on" Z.f_Course_sales_on
  F_Course_sales_before : Fun K "sales_before" "Course.sales_before" s_Course_sales_before Z.f_Course_sales_before Z.d_Course_sales_before
  b_Course_sales_before : Binds K Z.d_Course_sales_before p_Course_sales_before []
  m_Course_sales_before : Meth K Z.c_Course "sales_before" Z.f_Course_sales_before
  F_Course_loaves_at : Fun K "loaves_at" "Course.loaves_at" s_Course_loaves_at Z.f_Course_loaves_at Z.d_Course_loaves_at
  b_Course_loaves_at : Binds K Z.d_Course_loaves_at p_Course_loaves_at []
  m_Course_loaves_at : Meth K Z.c_Course "loaves_at" Z.f_Course_loaves_at
  F_Course_find_settled : Fun K "find_settled" "Course.find_settled" s_Course_find_settled Z.f_Course_find_settled Z.d_Course_find_settled
  b_Course_find_settled : Binds K Z.d_Course_find_settled p_Course_find_settled []
  m_Course_find_settled : Meth K Z.c_Course "find_settled" Z.f_Course_find_settled
  F_Course_sum_settled_round : Fun K "sum_settled_round" "Course.sum_settled_round" s_Course_sum_settled_round Z.f_Course_sum_settled_round Z.d_Course_sum_settled_round
  b_Course_sum_settled_round : Binds K Z.d_Course_sum_settled_round p_Course_sum_settled_round []
  m_Course_sum_settled_round : Meth K Z.c_Course "sum_settled_round" Z.f_Course_sum_settled_round
  F_Course__play_round : Fun K "_play_round" "Course._play_round" s_Course__play_round Z.f_Course__play_round Z.d_Course__play_round
  b_Course__play_round : Binds K Z.d_Course__play_round p_Course__play_round []
  m_Course__play_round : Meth K Z.c_Course "_play_round" Z.f_Course__play_round
  F_Course__stocks_in : Fun K "_stocks_in" "Course._stocks_in" s_Course__stocks_in Z.f_Course__stocks_in Z.d_Course__stocks_in
  b_Course__stocks_in : Binds K Z.d_Course__stocks_in p_Course__stocks_in []
  m_Course__stocks_in : Meth K Z.c_Course "_stocks_in" Z.f_Course__stocks_in
  F_Course__misses_in : Fun K "_misses_in" "Course._misses_in" s_Course__misses_in Z.f_Course__misses_in Z.d_Course__misses_in
  b_Course__misses_in : Binds K Z.d_Course__misses_in p_Course__misses_in []
  m_Course__misses_in : Meth K Z.c_Course "_misses_in" Z.f_Course__misses_in
  F_Course__count_growing : Fun K "_count_growing" "Course._count_growing" s_Course__count_growing Z.f_Course__count_growing Z.d_Course__count_growing
  b_Course__count_growing : Binds K Z.d_Course__count_growing p_Course__count_growing []
  m_Course__count_growing : Meth K Z.c_Course "_count_growing" Z.f_Course__count_growing
  F_check_amounts : Fun K "check_amounts" "check_amounts" s_check_amounts Z.f_check_amounts Z.d_check_amounts
  b_check_amounts : Binds K Z.d_check_amounts p_check_amounts []
  g_check_amounts : mg "check_amounts" = some (.ref Z.f_check_amounts)
  F_check_life : Fun K "check_life" "check_life" s_check_life Z.f_check_life Z.d_check_life
  b_check_life : Binds K Z.d_check_life p_check_life []
  g_check_life : mg "check_life" = some (.ref Z.f_check_life)
  F_check_bakery : Fun K "check_bakery" "check_bakery" s_check_bakery Z.f_check_bakery Z.d_check_bakery
  b_check_bakery : Binds K Z.d_check_bakery p_check_bakery []
  g_check_bakery : mg "check_bakery" = some (.ref Z.f_check_bakery)
  F_Bakery___init__ : Fun K "__init__" "Bakery.__init__" s_Bakery___init__ Z.f_Bakery___init__ Z.d_Bakery___init__
  b_Bakery___init__ : Binds K Z.d_Bakery___init__ p_Bakery___init__ []
  F_Bakery_bakes : Fun K "bakes" "Bakery.bakes" s_Bakery_bakes Z.f_Bakery_bakes Z.d_Bakery_bakes
  b_Bakery_bakes : Binds K Z.d_Bakery_bakes p_Bakery_bakes []
  pp_Bakery_bakes : PropOf K Z.c_Bakery "bakes" Z.pr_Bakery_bakes Z.f_Bakery_bakes
  F_Bakery_demands : Fun K "demands" "Bakery.demands" s_Bakery_demands Z.f_Bakery_demands Z.d_Bakery_demands
  b_Bakery_demands : Binds K Z.d_Bakery_demands p_Bakery_demands []
  pp_Bakery_demands : PropOf K Z.c_Bakery "demands" Z.pr_Bakery_demands Z.f_Bakery_demands
  F_Bakery_life : Fun K "life" "Bakery.life" s_Bakery_life Z.f_Bakery_life Z.d_Bakery_life
  b_Bakery_life : Binds K Z.d_Bakery_life p_Bakery_life []
  pp_Bakery_life : PropOf K Z.c_Bakery "life" Z.pr_Bakery_life Z.f_Bakery_life
  F_Bakery_settled_day : Fun K "settled_day" "Bakery.settled_day" s_Bakery_settled_day Z.f_Bakery_settled_day Z.d_Bakery_settled_day
  b_Bakery_settled_day : Binds K Z.d_Bakery_settled_day p_Bakery_settled_day []
  pp_Bakery_settled_day : PropOf K Z.c_Bakery "settled_day" Z.pr_Bakery_settled_day Z.f_Bakery_settled_day
  F_Bakery_long_run : Fun K "long_run" "Bakery.long_run" s_Bakery_long_run Z.f_Bakery_long_run Z.d_Bakery_long_run
  b_Bakery_long_run : Binds K Z.d_Bakery_long_run p_Bakery_long_run []
  pp_Bakery_long_run : PropOf K Z.c_Bakery "long_run" Z.pr_Bakery_long_run Z.f_Bakery_long_run
  F_Bakery_with_life : Fun K "with_life" "Bakery.with_life" s_Bakery_with_life Z.f_Bakery_with_life Z.d_Bakery_with_life
  b_Bakery_with_life : Binds K Z.d_Bakery_with_life p_Bakery_with_life []
  m_Bakery_with_life : Meth K Z.c_Bakery "with_life" Z.f_Bakery_with_life
  F_Bakery_baking_more : Fun K "baking_more" "Bakery.baking_more" s_Bakery_baking_more Z.f_Bakery_baking_more Z.d_Bakery_baking_more
  b_Bakery_baking_more : Binds K Z.d_Bakery_baking_more p_Bakery_baking_more []
  m_Bakery_baking_more : Meth K Z.c_Bakery "baking_more" Z.f_Bakery_baking_more
  F_Bakery_stock : Fun K "stock" "Bakery.stock" s_Bakery_stock Z.f_Bakery_stock Z.d_Bakery_stock
  b_Bakery_stock : Binds K Z.d_Bakery_stock p_Bakery_stock []
  m_Bakery_stock : Meth K Z.c_Bakery "stock" Z.f_Bakery_stock
  F_Bakery_sold : Fun K "sold" "Bakery.sold" s_Bakery_sold Z.f_Bakery_sold Z.d_Bakery_sold
  b_Bakery_sold : Binds K Z.d_Bakery_sold p_Bakery_sold []
  m_Bakery_sold : Meth K Z.c_Bakery "sold" Z.f_Bakery_sold
  F_Bakery_missed : Fun K "missed" "Bakery.missed" s_Bakery_missed Z.f_Bakery_missed Z.d_Bakery_missed
  b_Bakery_missed : Binds K Z.d_Bakery_missed p_Bakery_missed []
  m_Bakery_missed : Meth K Z.c_Bakery "missed" Z.f_Bakery_missed
  F_Bakery_thrown : Fun K "thrown" "Bakery.thrown" s_Bakery_thrown Z.f_Bakery_thrown Z.d_Bakery_thrown
  b_Bakery_thrown : Binds K Z.d_Bakery_thrown p_Bakery_thrown []
  m_Bakery_thrown : Meth K Z.c_Bakery "thrown" Z.f_Bakery_thrown
  F_Bakery_totals : Fun K "totals" "Bakery.totals" s_Bakery_totals Z.f_Bakery_totals Z.d_Bakery_totals
  b_Bakery_totals : Binds K Z.d_Bakery_totals p_Bakery_totals []
  m_Bakery_totals : Meth K Z.c_Bakery "totals" Z.f_Bakery_totals
  F_Bakery_shelf : Fun K "shelf" "Bakery.shelf" s_Bakery_shelf Z.f_Bakery_shelf Z.d_Bakery_shelf
  b_Bakery_shelf : Binds K Z.d_Bakery_shelf p_Bakery_shelf []
  m_Bakery_shelf : Meth K Z.c_Bakery "shelf" Z.f_Bakery_shelf
  F_sell_in_order : Fun K "sell_in_order" "sell_in_order" s_sell_in_order Z.f_sell_in_order Z.d_sell_in_order
  b_sell_in_order : Binds K Z.d_sell_in_order p_sell_in_order []
  g_sell_in_order : mg "sell_in_order" = some (.ref Z.f_sell_in_order)
  F_newest_first : Fun K "newest_first" "newest_first" s_newest_first Z.f_newest_first Z.d_newest_first
  b_newest_first : Binds K Z.d_newest_first p_newest_first []
  g_newest_first : mg "newest_first" = some (.ref Z.f_newest_first)
  F_find_loss : Fun K "find_loss" "find_loss" s_find_loss Z.f_find_loss Z.d_find_loss
  b_find_loss : Binds K Z.d_find_loss p_find_loss []
  g_find_loss : mg "find_loss" = some (.ref Z.f_find_loss)
  F_next_missed : Fun K "next_missed" "next_missed" s_next_missed Z.f_next_missed Z.d_next_missed
  b_next_missed : Binds K Z.d_next_missed p_next_missed []
  g_next_missed : mg "next_missed" = some (.ref Z.f_next_missed)
  F_next_thrown : Fun K "next_thrown" "next_thrown" s_next_thrown Z.f_next_thrown Z.d_next_thrown
  b_next_thrown : Binds K Z.d_next_thrown p_next_thrown []
  g_next_thrown : mg "next_thrown" = some (.ref Z.f_next_thrown)
  F_least_life : Fun K "least_life" "least_life" s_least_life Z.f_least_life Z.d_least_life
  b_least_life : Binds K Z.d_least_life p_least_life []
  g_least_life : mg "least_life" = some (.ref Z.f_least_life)
  F_least_baking : Fun K "least_baking" "least_baking" s_least_baking Z.f_least_baking Z.d_least_baking
  b_least_baking : Binds K Z.d_least_baking p_least_baking []
  g_least_baking : mg "least_baking" = some (.ref Z.f_least_baking)
  F_LifeObserver___init__ : Fun K "__init__" "LifeObserver.__init__" s_LifeObserver___init__ Z.f_LifeObserver___init__ Z.d_LifeObserver___init__
  b_LifeObserver___init__ : Binds K Z.d_LifeObserver___init__ p_LifeObserver___init__ []
  F_LifeObserver_records : Fun K "records" "LifeObserver.records" s_LifeObserver_records Z.f_LifeObserver_records Z.d_LifeObserver_records
  b_LifeObserver_records : Binds K Z.d_LifeObserver_records p_LifeObserver_records []
  pp_LifeObserver_records : PropOf K Z.c_LifeObserver "records" Z.pr_LifeObserver_records Z.f_LifeObserver_records
  F_LifeObserver_see_sold : Fun K "see_sold" "LifeObserver.see_sold" s_LifeObserver_see_sold Z.f_LifeObserver_see_sold Z.d_LifeObserver_see_sold
  b_LifeObserver_see_sold : Binds K Z.d_LifeObserver_see_sold p_LifeObserver_see_sold []
  m_LifeObserver_see_sold : Meth K Z.c_LifeObserver "see_sold" Z.f_LifeObserver_see_sold
  F_LifeObserver_see_thrown : Fun K "see_thrown" "LifeObserver.see_thrown" s_LifeObserver_see_thrown Z.f_LifeObserver_see_thrown Z.d_LifeObserver_see_thrown
  b_LifeObserver_see_thrown : Binds K Z.d_LifeObserver_see_thrown p_LifeObserver_see_thrown []
  m_LifeObserver_see_thrown : Meth K Z.c_LifeObserver "see_thrown" Z.f_LifeObserver_see_thrown
  F_LifeObserver_see_stock : Fun K "see_stock" "LifeObserver.see_stock" s_LifeObserver_see_stock Z.f_LifeObserver_see_stock Z.d_LifeObserver_see_stock
  b_LifeObserver_see_stock : Binds K Z.d_LifeObserver_see_stock p_LifeObserver_see_stock []
  m_LifeObserver_see_stock : Meth K Z.c_LifeObserver "see_stock" Z.f_LifeObserver_see_stock
  F_LifeObserver__accept : Fun K "_accept" "LifeObserver._accept" s_LifeObserver__accept Z.f_LifeObserver__accept Z.d_LifeObserver__accept
  b_LifeObserver__accept : Binds K Z.d_LifeObserver__accept p_LifeObserver__accept []
  m_LifeObserver__accept : Meth K Z.c_LifeObserver "_accept" Z.f_LifeObserver__accept
  F__law_mix : Fun K "_law_mix" "_law_mix" s__law_mix Z.f__law_mix Z.d__law_mix
  b__law_mix : Binds K Z.d__law_mix p__law_mix []
  g__law_mix : mg "_law_mix" = some (.ref Z.f__law_mix)
  F__law_next : Fun K "_law_next" "_law_next" s__law_next Z.f__law_next Z.d__law_next
  b__law_next : Binds K Z.d__law_next p__law_next []
  g__law_next : mg "_law_next" = some (.ref Z.f__law_next)
  F__law_error : Fun K "_law_error" "_law_error" s__law_error Z.f__law_error Z.d__law_error
  b__law_error : Binds K Z.d__law_error p__law_error []
  g__law_error : mg "_law_error" = some (.ref Z.f__law_error)
  F__law_amounts : Fun K "_law_amounts" "_law_amounts" s__law_amounts Z.f__law_amounts Z.d__law_amounts
  b__law_amounts : Binds K Z.d__law_amounts p__law_amounts []
  g__law_amounts : mg "_law_amounts" = some (.ref Z.f__law_amounts)
  F__law_parts : Fun K "_law_parts" "_law_parts" s__law_parts Z.f__law_parts Z.d__law_parts
  b__law_parts : Binds K Z.d__law_parts p__law_parts []
  g__law_parts : mg "_law_parts" = some (.ref Z.f__law_parts)
  F_law : Fun K "law" "law" s_law Z.f_law Z.d_law
  b_law : Binds K Z.d_law p_law []
  FC_law : FunC K "law" "law" s_law Z.f_law Z.d_law Z.k_law
  g_law : mg "law" = some (.ref Z.f_law)
end Sw
namespace Sw
open PySem PySem.Spec PyProof.Rows L2 Evl
/-! ### the mirror: what the package computes -/
def keepAt (bs : List Int) (life : Int) (i : Nat) : Int := ((List.range (life - 1).toNat).map fun (age : Nat) => bs.getD ((((i : Int) - (age : Int)) % (bs.length : Int)).toNat) 0).sum
def keepL (bs : List Int) (life : Int) : List Int := (List.range bs.length).map (keepAt bs life)
def sumRep (am : List Int) (days : Int) : Int := days / (am.length : Int) * am.sum + (am.take (days % (am.length : Int)).toNat).sum
def stp (s b d k : Int) : Int := min (max 0 (s + b - d)) k
def stkAt (bs ds ks : List Int) (s : Int) : Nat → Int
  | 0 => s
  | i + 1 => stp (stkAt bs ds ks s i) (bs.getD i 0) (ds.getD i 0) (ks.getD i 0)
def stkL (bs ds ks : List Int) (s : Int) : List Int := (List.range (bs.length + 1)).map (stkAt bs ds ks s)
/-! ### an instance's fields, for the walk -/
/-- the instance at a has the field, and its class lets it be read -/
structure FlK (K : PySem.W.Frag) (H : Hp) (a C : Addr) (f : Str) (v : V) : Prop where
  fl : Fl H a C f v
  cl : Cls K C
  na : NoAttr K C f
section
variable {K : PySem.W.Frag} {σ : L2.St} {H H' : Hp} {ta tb te tx : TE} {x y z v : V} {a C dx : Addr} {fs : List (Str × V)} {f m : Str}
theorem FlK.mono (e : Ex H H') (h : FlK K H a C f v) : FlK K H' a C f v := ⟨h.fl.mono e, h.cl, h.na⟩
theorem ev_fldK (h : Ev ta σ H (.ref a)) (hf : FlK K H a C f v) : Ev (tFld K ta f) σ H v := ev_fld h hf.fl hf.cl hf.na
theorem atI_mapI {ns : List Int} {i : Int} (h0 : 0 ≤ i) (h1 : i < ns.length) : atI (ns.map V.int) i = some (.int (ns.getD i.toNat 0)) := by
  rw [atI_at (d := V.int 0) h0 (by rw [List.length_map]; exact h1)]
  simp [List.getD]
theorem rng_map {n : Nat} (f : Nat → Int) : (List.range n).map (fun i => V.int (f i)) = ((List.range n).map f).map V.int := by
  rw [List.map_map]; rfl
end
theorem wide_ok {i j : Int} (h : j.natAbs < 2 ^ 60) : CMul i j := .inr (by omega)
local macro_rules | `(tactic| walk_at "ev") => `(tactic| first
  | exact ev_c
  | exact ev_var rfl
  | ((with_reducible show Ev (tCB rMax2 _) _ _ _); exact ev_maxi (by walk_at "ev") (by walk_at "ev"))
  | ((with_reducible show Ev (tCB rMn _) _ _ _); exact ev_min2 (by walk_at "ev") (by walk_at "ev"))
  | ((with_reducible show Ev (tUn _ _) _ _ _); exact ev_un (by walk_at "ev") ru_neg)
  | ((with_reducible show Ev (tFld _ _ _) _ _ _); exact ev_fldK (by walk_at "ev") (by assumption))
  | ((with_reducible show Ev (tOp (rI0 _) _ _) _ _ _); exact ev_op (by walk_at "ev") (by walk_at "ev") rv_I0)
  | ((with_reducible show Ev (tOp rEq _ _) _ _ _); exact ev_op (by walk_at "ev") (by walk_at "ev") (rv_eq rfl))
  | ((with_reducible show Ev (tOp rNe _ _) _ _ _); exact ev_op (by walk_at "ev") (by walk_at "ev") (rv_ne rfl)))

variable {P : Program} {w : World} {K : PySem.W.Frag} {mg : Str → Option Value} {base : Heap} {Z : Ad}
def sp_count_keepable (K : PySem.W.Frag) : Sp := fun vs H Q _ => ∃ (a : Addr) (bs : List Int) (life : Int), vs = [.ref a, .int life] ∧ SqT K H a (bs.map V.int) ∧ 0 < bs.length ∧ bs.length ≤ 24 ∧ 1 ≤ life ∧ life ≤ 30 ∧
  RetL ((keepL bs life).map V.int) H Q
theorem ok_count_keepable (T : Txt K mg Z) : FnOk P w K mg base CX0 1 Z.f_count_keepable Z.d_count_keepable p_count_keepable (sp_count_keepable K) := by
  refine T.F_count_keepable.ok sc_count_keepable (fun vs H Q E h => ?_) (fun cdv Ar outer s H vs Q E hr h => ?_)
  · obtain ⟨a, bs, life, rfl, _⟩ := h
    rfl
  · obtain ⟨a, bs, life, rfl, hS, h0, h1, h2, h3, k⟩ := h
    refine ⟨_, (pss_cons (ps_set (i := 2) sc_count_keepable.nd rfl (Or.inr rfl) (pe_callB (r := rLenS K) (call_len_seq) (by rfl) T.b_len boot_len (pa_cons (pv 0) pa_nil)))
      (pss_one (ps_ret (pe_lc (own := [("at", 3)]) rfl sc_count_keepable.nd (pi_range1 (by rfl) T.b_range (pa_cons (pv 2) pa_nil)) (blkOk_by (own := [("at", 3)]) (N := n_count_keepable) (sc := defScope s_count_keepable) (scope := { kind := PySem.ScopeKind.function, names := [ (PySem.Str.ofString ".0", PySem.NameKind.local), (PySem.Str.ofString "at", PySem.NameKind.cell), (PySem.Str.ofString "sum", PySem.NameKind.globalImplicit), (PySem.Str.ofString "range", PySem.NameKind.globalImplicit), (PySem.Str.ofString "bakes", PySem.NameKind.free), (PySem.Str.ofString "length", PySem.NameKind.free), (PySem.Str.ofString "life", PySem.NameKind.free)], isGenerator := false, isCoroutine := false, more := [] : PySem.Scope }) (by decide +kernel)) (fun _ _ _ _ _ => (pg_name (i := 3) sc_count_keepable.nd rfl (Or.inr rfl))) (fun _ _ _ _ _ => pts_nil) (fun _ _ _ _ _ => (pe_callB (r := rSum K) (cr_sum rfl) (by rfl) T.b_sum boot_sum (pa_cons (pe_lc (own := [("age", 4)]) rfl sc_count_keepable.nd (pi_range1 (by rfl) T.b_range (pa_cons (pe_op op_sub (pv 1) pe_int) pa_nil)) (blkOk_by (own := [("age", 4)]) (N := n_count_keepable) (sc := { kind := PySem.ScopeKind.function, names := [ (PySem.Str.ofString ".0", PySem.NameKind.local), (PySem.Str.ofString "at", PySem.NameKind.cell), (PySem.Str.ofString "sum", PySem.NameKind.globalImplicit), (PySem.Str.ofString "range", PySem.NameKind.globalImplicit), (PySem.Str.ofString "bakes", PySem.NameKind.cell), (PySem.Str.ofString "length", PySem.NameKind.cell), (PySem.Str.ofString "life", PySem.NameKind.cell)], isGenerator := false, isCoroutine := false, more := [] : PySem.Scope }) (scope := { kind := PySem.ScopeKind.function, names := [ (PySem.Str.ofString ".0", PySem.NameKind.local), (PySem.Str.ofString "age", PySem.NameKind.local), (PySem.Str.ofString "at", PySem.NameKind.free), (PySem.Str.ofString "bakes", PySem.NameKind.free), (PySem.Str.ofString "length", PySem.NameKind.free)], isGenerator := false, isCoroutine := false, more := [] : PySem.Scope }) (by decide +kernel)) (fun _ _ _ _ _ => (pg_name (i := 4) sc_count_keepable.nd rfl (Or.inl rfl))) (fun _ _ _ _ _ => pts_nil) (fun _ _ _ _ _ => (pe_ix (r := rIxT K) ix_tup (pv 0) (pe_op op_mod (pe_op op_sub (pv 3) (pv 4)) (pv 2)) (fun _ _ => rfl)))) pa_nil))))))), ?_⟩
    refine q_asg (ev_lenT (ev_var rfl) hS) fun H1 e1 => ?_
    have hS1 := ex_t e1 hS
    have hl : ((bs.map V.int).length : Int) = (bs.length : Int) := by rw [List.length_map]
    rw [hl]
    refine s_retL (xs := (keepL bs life).map V.int) ?_ fun p H2 hp e2 h2 => k p H2 (fresh_back e1 hp) (e1.trans e2) h2
    unfold keepL
    rw [← rng_map]
    refine el_lcR (n := (bs.length : Int)) (fun i => V.int (keepAt bs life i)) (ea_cons (ev_var rfl) ea_nil) ⟨by omega, by omega⟩ (fun _ => rfl) fun i H3 e3 hi => ?_
    unfold keepAt
    refine ev_sumN ?_
    rw [← rng_map]
    refine el_lcR (n := life - 1) _ (ea_cons (by walk_at "ev") ea_nil) ⟨by omega, by omega⟩ (fun _ => rfl) fun j H4 e4 hj => ?_
    have hm0 : 0 ≤ ((i : Int) - (j : Int)) % (bs.length : Int) := Int.emod_nonneg _ (by omega)
    have hm1 : ((i : Int) - (j : Int)) % (bs.length : Int) < (bs.length : Int) := Int.emod_lt_of_pos _ (by omega)
    exact ev_ixT (ev_var rfl) (ex_t (e3.trans e4) hS1) (ev_op (by walk_at "ev") (by walk_at "ev") (rv_I (by show (0 : Int) < _; omega))) (atI_mapI hm0 hm1)
def sp_sum_repeated (K : PySem.W.Frag) : Sp := fun vs H Q _ => ∃ (a : Addr) (am : List Int) (days : Int), vs = [.ref a, .int days] ∧ (SqT K H a (am.map V.int) ∨ SqL K H a (am.map V.int)) ∧ 0 < am.length ∧ am.length ≤ 24 ∧ am.sum.natAbs ≤ 2 ^ 40 ∧
  RetV (.int (sumRep am days)) H Q
theorem ok_sum_repeated (T : Txt K mg Z) : FnOk P w K mg base CX0 1 Z.f_sum_repeated Z.d_sum_repeated p_sum_repeated (sp_sum_repeated K) := by
  refine T.F_sum_repeated.ok sc_sum_repeated (fun vs H Q E h => ?_) (fun cdv Ar outer s H vs Q E hr h => ?_)
  · obtain ⟨a, am, days, rfl, _⟩ := h
    rfl
  · obtain ⟨a, am, days, rfl, hS, h0, h1, h2, k⟩ := h
    have hl : ((am.map V.int).length : Int) = (am.length : Int) := by rw [List.length_map]
    have hd : CDiv days (am.length : Int) := ⟨by omega, by omega⟩
    have hr0 : 0 ≤ days % (am.length : Int) := Int.emod_nonneg _ (by omega)
    have hr : days % (am.length : Int) = (((days % (am.length : Int)).toNat : Nat) : Int) := by omega
    rcases hS with hS | hS
    · refine ⟨_, (pss_cons (ps_asg (pe_callB (r := rDm) (call_divmod) (by rfl) T.b_divmod boot_divmod (pa_cons (pv 1) (pa_cons (pe_callB (r := rLenS K) (call_len_seq) (by rfl) T.b_len boot_len (pa_cons (pv 0) pa_nil)) pa_nil))) (by exact (pg_tupK K (n := 2) rfl rfl (pgs_cons (pg_name (i := 2) sc_sum_repeated.nd rfl (Or.inl rfl)) (pgs_cons (pg_name (i := 3) sc_sum_repeated.nd rfl (Or.inl rfl)) pgs_nil)))))
      (pss_one (ps_ret (pe_op op_add (pe_op op_mul (pv 2) (pe_callB (r := rSumT K) (cr_sumT rfl) (by rfl) T.b_sum boot_sum (pa_cons (pv 0) pa_nil))) (pe_callB (r := rSumT K) (cr_sumT rfl) (by rfl) T.b_sum boot_sum (pa_cons (pe_slice (r := rSlA K) sl_tupA (pv 0) po_none (po_some (pv 3))) pa_nil)))))), ?_⟩
      refine q_pair (eu_dm (ev_var rfl) (Ev.int_eq (ev_lenT (ev_var rfl) hS) hl) hd) fun H1 e1 => ?_
      refine s_ret ?_ fun H2 e2 => k H2 (e1.trans e2)
      refine ev_op (ev_op (ev_var rfl) (ev_sumT (ev_var rfl) (ex_t e1 hS)) (rv_I (wide_ok ?_))) (ev_sumW (ns := am.take (days % (am.length : Int)).toNat) ?_) rv_I0
      · omega
      · rw [List.map_take]
        exact ew_take (ew_of (ev_var rfl) (ex_t e1 hS)) (Ev.int_eq (ev_var rfl) hr)
    · refine ⟨_, (pss_cons (ps_asg (pe_callB (r := rDm) (call_divmod) (by rfl) T.b_divmod boot_divmod (pa_cons (pv 1) (pa_cons (pe_callB (r := rLenS K) (call_len_seq) (by rfl) T.b_len boot_len (pa_cons (pv 0) pa_nil)) pa_nil))) (by exact (pg_tupK K (n := 2) rfl rfl (pgs_cons (pg_name (i := 2) sc_sum_repeated.nd rfl (Or.inl rfl)) (pgs_cons (pg_name (i := 3) sc_sum_repeated.nd rfl (Or.inl rfl)) pgs_nil)))))
      (pss_one (ps_ret (pe_op op_add (pe_op op_mul (pv 2) (pe_callB (r := rSum K) (cr_sum rfl) (by rfl) T.b_sum boot_sum (pa_cons (pv 0) pa_nil))) (pe_callB (r := rSum K) (cr_sum rfl) (by rfl) T.b_sum boot_sum (pa_cons (pe_slice (r := rSlL K) sl_list (pv 0) po_none (po_some (pv 3))) pa_nil)))))), ?_⟩
      refine q_pair (eu_dm (ev_var rfl) (Ev.int_eq (ev_len (ev_var rfl) hS) hl) hd) fun H1 e1 => ?_
      refine s_ret ?_ fun H2 e2 => k H2 (e1.trans e2)
      refine ev_op (ev_op (ev_var rfl) (ev_sumL (ev_var rfl) (ex_l e1 hS)) (rv_I (wide_ok ?_))) (ev_sumM (ns := am.take (days % (am.length : Int)).toNat) ?_) rv_I0
      · omega
      · rw [List.map_take]
        exact EvL.m (el_take (em_of (ev_var rfl) (ex_l e1 hS)) (Ev.int_eq (ev_var rfl) hr))
end Sw
namespace Sw
open PySem PySem.Spec PyProof.Rows L2 Evl
local macro_rules | `(tactic| walk_at "ev") => `(tactic| first
  | exact ev_c
  | exact ev_var rfl
  | ((with_reducible show Ev (tCB rMax2 _) _ _ _); exact ev_maxi (by walk_at "ev") (by walk_at "ev"))
  | ((with_reducible show Ev (tCB rMn _) _ _ _); exact ev_min2 (by walk_at "ev") (by walk_at "ev"))
  | ((with_reducible show Ev (tUn _ _) _ _ _); exact ev_un (by walk_at "ev") ru_neg)
  | ((with_reducible show Ev (tFld _ _ _) _ _ _); exact ev_fldK (by walk_at "ev") (by assumption))
  | ((with_reducible show Ev (tOp (rI0 _) _ _) _ _ _); exact ev_op (by walk_at "ev") (by walk_at "ev") rv_I0)
  | ((with_reducible show Ev (tOp rEq _ _) _ _ _); exact ev_op (by walk_at "ev") (by walk_at "ev") (rv_eq rfl))
  | ((with_reducible show Ev (tOp rNe _ _) _ _ _); exact ev_op (by walk_at "ev") (by walk_at "ev") (rv_ne rfl)))

/-! ### the course: what its object holds -/
def start1 (gain first full : Int) (r : Int) : Int := if r = 0 then 0 else min full (first + (r - 1) * gain)
def missL (ds bs st : List Int) : List Int := (List.range ds.length).map fun i => max 0 (ds.getD i 0 - st.getD i 0 - bs.getD i 0)
def growing (gain first full : Int) : Int := if gain = 0 then 0 else -((first - full) / gain)
/-- bounds of what a bakery is made of -/
structure Good (bs ds : List Int) : Prop where
  n0 : 0 < bs.length
  n1 : bs.length ≤ 24
  ld : ds.length = bs.length
  b0 : ∀ x ∈ bs, 0 ≤ x ∧ x ≤ 1000000000
  d0 : ∀ x ∈ ds, 0 ≤ x ∧ x ≤ 1000000000
structure PR (K : PySem.W.Frag) (Z : Ad) (H : Hp) (c : Addr) (bs ds ks : List Int) (tb td tk : Addr) : Prop where
  fb : FlK K H c Z.c_Course "_bakes" (.ref tb)
  hb : SqT K H tb (bs.map V.int)
  fd : FlK K H c Z.c_Course "_demands" (.ref td)
  hd : SqT K H td (ds.map V.int)
  fk : FlK K H c Z.c_Course "_keepable" (.ref tk)
  hk : SqL K H tk (ks.map V.int)
  nf : NoF H c Z.c_Course "_play_round"
  gd : Good bs ds
  kl : ks.length = bs.length
structure SR (K : PySem.W.Frag) (Z : Ad) (H : Hp) (c : Addr) (bs ds ks : List Int) (tb td tk : Addr) (gain first full : Int) : Prop where
  pr : PR K Z H c bs ds ks tb td tk
  fg : FlK K H c Z.c_Course "_gain" (.int gain)
  ff : FlK K H c Z.c_Course "_first_end" (.int first)
  fu : FlK K H c Z.c_Course "_full_end" (.int full)
  nf : NoF H c Z.c_Course "_stocks_in"
  gb : gain.natAbs < 2 ^ 60
theorem PR.mono {K : PySem.W.Frag} {Z : Ad} {H H' : Hp} {c : Addr} {bs ds ks : List Int} {tb td tk : Addr} (e : Ex H H') (h : PR K Z H c bs ds ks tb td tk) : PR K Z H' c bs ds ks tb td tk :=
  ⟨h.fb.mono e, ex_t e h.hb, h.fd.mono e, ex_t e h.hd, h.fk.mono e, ex_l e h.hk, h.nf.mono e, h.gd, h.kl⟩
theorem SR.mono {K : PySem.W.Frag} {Z : Ad} {H H' : Hp} {c : Addr} {bs ds ks : List Int} {tb td tk : Addr} {gain first full : Int} (e : Ex H H') (h : SR K Z H c bs ds ks tb td tk gain first full) : SR K Z H' c bs ds ks tb td tk gain first full :=
  ⟨h.pr.mono e, h.fg.mono e, h.ff.mono e, h.fu.mono e, h.nf.mono e, h.gb⟩
theorem stkL_get {bs ds ks : List Int} {s : Int} {i : Nat} (h : i ≤ bs.length) : (stkL bs ds ks s).getD i 0 = stkAt bs ds ks s i := by
  unfold stkL
  simp [List.getD, List.getElem?_map, List.getElem?_range (show i < bs.length + 1 by omega)]
theorem stkL_len {bs ds ks : List Int} {s : Int} : (stkL bs ds ks s).length = bs.length + 1 := by simp [stkL]
theorem atI_last {α : Type} {xs : List α} {x : α} : atI (xs ++ [x]) (-1) = some x := by
  have e : ixN (xs ++ [x]).length (-1) = some xs.length := by
    unfold ixN
    rw [List.length_append, List.length_singleton]
    rw [if_neg (by omega), if_pos (by omega)]
    congr 1
    omega
  unfold atI
  rw [e]
  simp
theorem at_map {ns : List Int} {i : Nat} {x : V} (h : (ns.map V.int)[i]? = some x) : x = .int (ns.getD i 0) ∧ i < ns.length := by
  rw [List.getElem?_map] at h
  cases e : ns[i]? with
  | none => rw [e] at h; cases h
  | some z =>
    rw [e] at h
    have hi := (List.getElem?_eq_some_iff.mp e).1
    refine ⟨?_, hi⟩
    simp [List.getD, e] at h ⊢
    exact h.symm
variable {P : Program} {w : World} {K : PySem.W.Frag} {mg : Str → Option Value} {base : Heap} {Z : Ad}
/-! ### _play_round -/
def sp_play (K : PySem.W.Frag) (Z : Ad) : Sp := fun vs H Q _ => ∃ (c : Addr) (bs ds ks : List Int) (tb td tk : Addr) (s : Int), vs = [.ref c, .int s] ∧ PR K Z H c bs ds ks tb td tk ∧ RetL ((stkL bs ds ks s).map V.int) H Q
theorem ok_Course__play_round (T : Txt K mg Z) : FnOk P w K mg base CX0 1 Z.f_Course__play_round Z.d_Course__play_round p_Course__play_round (sp_play K Z) := by
  refine T.F_Course__play_round.ok sc_Course__play_round (fun vs H Q E h => ?_) (fun cdv Ar outer s H vs Q E hr h => ?_)
  · obtain ⟨c, bs, ds, ks, tb, td, tk, s, rfl, _⟩ := h
    rfl
  · obtain ⟨c, bs, ds, ks, tb, td, tk, s, rfl, hP, k⟩ := h
    have fb := hP.fb
    have fd := hP.fd
    have fk := hP.fk
    have hn := hP.gd.n1
    refine ⟨_, (pss_cons (ps_set (i := 2) sc_Course__play_round.nd rfl (Or.inl rfl) (pe_lst (pa_cons (pv 1) pa_nil)))
      (pss_cons (ps_for PassesOwn.never rfl (pi_zip3 (by rfl) T.b_zip (pa_cons (pe_fldK K rfl (pv 0) rfl) (pa_cons (pe_fldK K rfl (pv 0) rfl) (pa_cons (pe_fldK K rfl (pv 0) rfl) pa_nil)))) (by exact (pg_tupK K (n := 3) rfl rfl (pgs_cons (pg_name (i := 3) sc_Course__play_round.nd rfl (Or.inl rfl)) (pgs_cons (pg_name (i := 4) sc_Course__play_round.nd rfl (Or.inl rfl)) (pgs_cons (pg_name (i := 5) sc_Course__play_round.nd rfl (Or.inl rfl)) pgs_nil))))) (pss_cons (ps_set (i := 6) sc_Course__play_round.nd rfl (Or.inl rfl) (pe_callB (r := rMax2) (call_max2 rfl) (by rfl) T.b_max boot_max (pa_cons pe_int (pa_cons (pe_op op_sub (pe_op op_add (pe_ix (r := rIxL K) ix_list (pv 2) (pe_un un_neg pe_int) (fun _ _ => rfl)) (pv 3)) (pv 4)) pa_nil))))
      (pss_one (ps_expr (pe_bm PySem.F.plainAttrs_list PySem.F.slot_list_append PySem.F.type_list_append mt_append (pv 2) (pa_cons (pe_callB (r := rMn) (call_min2 rfl) (by rfl) T.b_min boot_min (pa_cons (pv 6) (pa_cons (pv 5) pa_nil))) pa_nil))))))
      (pss_one (ps_ret (pv 2))))), ?_⟩
    refine q_asgL (xs := [.int s]) (el_lst (ea_cons (ev_var rfl) ea_nil) (by show 1 ≤ 100000; decide)) fun p H1 hp e1 h1 => ?_
    refine q_forZ3 (n := bs.length) (G := H) (ea_cons (Ev.mono e1 (by walk_at "ev")) (ea_cons (Ev.mono e1 (by walk_at "ev")) (ea_cons (Ev.mono e1 (by walk_at "ev")) ea_nil))) e1 hP.hb hP.hd hP.hk (by simp) (by simp [hP.gd.ld]) (by simp [hP.kl])
      (fun i σ' H' => (∃ a b c' d, σ' = [some (.ref c), some (.int s), some (.ref p), a, b, c', d]) ∧ Ex H H' ∧ H' p = some (.lst (((List.range (i + 1)).map (stkAt bs ds ks s)).map V.int))) ?_ ?_ ?_ ?_
    · intro H2 e2
      exact ⟨⟨_, _, _, _, rfl⟩, e1.trans e2, e2 p _ h1⟩
    · intro i σ' H' _ p
      exact p.2.1
    · rintro i x y z σ' H' hx hy hz ⟨⟨_, _, _, _, rfl⟩, e2, h2⟩ H3 e3
      obtain ⟨rfl, hi⟩ := at_map hx
      obtain ⟨rfl, _⟩ := at_map hy
      obtain ⟨rfl, _⟩ := at_map hz
      have h3 := e3 p _ h2
      have hlast : ((List.range (i + 1)).map (stkAt bs ds ks s)).map V.int = ((List.range i).map (stkAt bs ds ks s)).map V.int ++ [V.int (stkAt bs ds ks s i)] := by
        rw [List.range_succ, List.map_append, List.map_append]; rfl
      refine q_asg (ev_maxi ev_c (ev_op (ev_op (ev_ixL (v := .int (stkAt bs ds ks s i)) (ev_var rfl) (sq_of h3) (by walk_at "ev") (by rw [hlast]; exact atI_last)) (ev_var rfl) rv_I0) (ev_var rfl) rv_I0)) fun H4 e4 => ?_
      refine s_app (e4 p _ h3) (ev_var rfl) (by walk_at "ev") (by simp; omega) fun H5 e5 => ?_
      refine ⟨⟨_, _, _, _, rfl⟩, Ex.mut (((e2.trans e3).trans e4).trans e5) hp, ?_⟩
      rw [upd_same, List.range_succ (n := i + 1), List.map_append, List.map_append]
      rfl
    · rintro σ' H' ⟨⟨_, _, _, _, rfl⟩, e2, h2⟩
      exact s_ret (ev_var rfl) fun H3 e3 => k p H3 hp (e2.trans e3) (e3 p _ h2)
end Sw
namespace Sw
open PySem PySem.Spec PyProof.Rows L2 Evl
local macro_rules | `(tactic| walk_at "ev") => `(tactic| first
  | exact ev_c
  | exact ev_var rfl
  | ((with_reducible show Ev (tCB rMax2 _) _ _ _); exact ev_maxi (by walk_at "ev") (by walk_at "ev"))
  | ((with_reducible show Ev (tCB rMn _) _ _ _); exact ev_min2 (by walk_at "ev") (by walk_at "ev"))
  | ((with_reducible show Ev (tUn _ _) _ _ _); exact ev_un (by walk_at "ev") ru_neg)
  | ((with_reducible show Ev (tFld _ _ _) _ _ _); exact ev_fldK (by walk_at "ev") (by assumption))
  | ((with_reducible show Ev (tOp (rI0 _) _ _) _ _ _); exact ev_op (by walk_at "ev") (by walk_at "ev") rv_I0)
  | ((with_reducible show Ev (tOp rEq _ _) _ _ _); exact ev_op (by walk_at "ev") (by walk_at "ev") (rv_eq rfl))
  | ((with_reducible show Ev (tOp rNe _ _) _ _ _); exact ev_op (by walk_at "ev") (by walk_at "ev") (rv_ne rfl)))

/-- a promise's uses -/
theorem spl_play {K : PySem.W.Frag} {Z : Ad} {H : Hp} {c : Addr} {bs ds ks : List Int} {tb td tk : Addr} {s : Int} (h : PR K Z H c bs ds ks tb td tk) : SpL (sp_play K Z) [.ref c, .int s] H ((stkL bs ds ks s).map V.int) :=
  fun _ e _ q _ => ⟨c, bs, ds, ks, tb, td, tk, s, rfl, h.mono e, q⟩
def sp_stocks (K : PySem.W.Frag) (Z : Ad) : Sp := fun vs H Q _ => ∃ (c : Addr) (bs ds ks : List Int) (tb td tk : Addr) (gain first full r : Int), vs = [.ref c, .int r] ∧ SR K Z H c bs ds ks tb td tk gain first full ∧ RetL ((stkL bs ds ks (start1 gain first full r)).map V.int) H Q
theorem spl_stocks {K : PySem.W.Frag} {Z : Ad} {H : Hp} {c : Addr} {bs ds ks : List Int} {tb td tk : Addr} {gain first full r : Int} (h : SR K Z H c bs ds ks tb td tk gain first full) :
    SpL (sp_stocks K Z) [.ref c, .int r] H ((stkL bs ds ks (start1 gain first full r)).map V.int) :=
  fun _ e _ q _ => ⟨c, bs, ds, ks, tb, td, tk, gain, first, full, r, rfl, h.mono e, q⟩
variable {P : Program} {w : World} {K : PySem.W.Frag} {mg : Str → Option Value} {base : Heap} {Z : Ad}
theorem ok_Course__stocks_in (T : Txt K mg Z) : FnOk P w K mg base CX0 2 Z.f_Course__stocks_in Z.d_Course__stocks_in p_Course__stocks_in (sp_stocks K Z) := by
  refine T.F_Course__stocks_in.ok sc_Course__stocks_in (fun vs H Q E h => ?_) (fun cdv Ar outer s H vs Q E hr h => ?_)
  · obtain ⟨c, bs, ds, ks, tb, td, tk, gain, first, full, r, rfl, _⟩ := h
    rfl
  · obtain ⟨c, bs, ds, ks, tb, td, tk, gain, first, full, r, rfl, hS, k⟩ := h
    have hP := hS.pr
    refine ⟨_, (pss_cons (ps_if (pt_cmpR op_eq (pv 1) pe_int (nomark _)) (pss_one (ps_ret (pe_meth (pv 0) T.cl_Course T.m_Course__play_round (ok_Course__play_round T) (hr.mono (by decide)) T.b_Course__play_round .nil pass0 (pa_cons pe_int pa_nil)))) pss_nil)
      (pss_cons (ps_set (i := 2) sc_Course__stocks_in.nd rfl (Or.inl rfl) (pe_callB (r := rMn) (call_min2 rfl) (by rfl) T.b_min boot_min (pa_cons (pe_fldK K rfl (pv 0) rfl) (pa_cons (pe_op op_add (pe_fldK K rfl (pv 0) rfl) (pe_op op_mul (pe_op op_sub (pv 1) pe_int) (pe_fldK K rfl (pv 0) rfl))) pa_nil))))
      (pss_one (ps_ret (pe_meth (pv 0) T.cl_Course T.m_Course__play_round (ok_Course__play_round T) (hr.mono (by decide)) T.b_Course__play_round .nil pass0 (pa_cons (pv 2) pa_nil)))))), ?_⟩
    refine q_when (et_test (by walk_at "ev")) (fun hb H1 e1 => ?_) (fun hb H1 e1 => ?_)
    · have hr0 : r = 0 := by simpa using hb
      refine s_retL (el_meth (ev_var rfl) (hP.nf.mono e1) (ea_cons ev_c ea_nil) (spl_play (s := 0) (hP.mono e1))) fun p H2 hp e2 h2 => ?_
      refine k p H2 (fresh_back e1 hp) (e1.trans e2) ?_
      rw [h2]
      unfold start1
      rw [if_pos hr0]
    · have hr0 : ¬ r = 0 := by simpa using hb
      have fg := hS.fg.mono e1
      have ff := hS.ff.mono e1
      have fu := hS.fu.mono e1
      refine q_asg (ev_min2 (by walk_at "ev") (ev_op (by walk_at "ev") (ev_op (by walk_at "ev") (by walk_at "ev") (rv_I (wide_ok hS.gb))) rv_I0)) fun H2 e2 => ?_
      refine s_retL (el_meth (ev_var rfl) (hP.nf.mono (e1.trans e2)) (ea_cons (ev_var rfl) ea_nil) (spl_play (hP.mono (e1.trans e2)))) fun p H3 hp e3 h3 => ?_
      refine k p H3 (fresh_back (e1.trans e2) hp) ((e1.trans e2).trans e3) ?_
      rw [h3]
      unfold start1
      rw [if_neg hr0]
/-- what a course tells -/
def stockI (bs ds ks : List Int) (gain first full day : Int) : Int := stkAt bs ds ks (start1 gain first full (day / (bs.length : Int))) (day % (bs.length : Int)).toNat
structure SM (K : PySem.W.Frag) (Z : Ad) (H : Hp) (c : Addr) (bs ds ks : List Int) (tb td tk : Addr) (gain first full : Int) : Prop where
  sr : SR K Z H c bs ds ks tb td tk gain first full
  nm : NoF H c Z.c_Course "_misses_in"
theorem SM.mono {K : PySem.W.Frag} {Z : Ad} {H H' : Hp} {c : Addr} {bs ds ks : List Int} {tb td tk : Addr} {gain first full : Int} (e : Ex H H') (h : SM K Z H c bs ds ks tb td tk gain first full) : SM K Z H' c bs ds ks tb td tk gain first full := ⟨h.sr.mono e, h.nm.mono e⟩
def sp_misses (K : PySem.W.Frag) (Z : Ad) : Sp := fun vs H Q _ => ∃ (c : Addr) (bs ds ks : List Int) (tb td tk : Addr) (gain first full r : Int), vs = [.ref c, .int r] ∧ SR K Z H c bs ds ks tb td tk gain first full ∧ RetL ((missL ds bs (stkL bs ds ks (start1 gain first full r))).map V.int) H Q
theorem spl_misses {K : PySem.W.Frag} {Z : Ad} {H : Hp} {c : Addr} {bs ds ks : List Int} {tb td tk : Addr} {gain first full r : Int} (h : SR K Z H c bs ds ks tb td tk gain first full) :
    SpL (sp_misses K Z) [.ref c, .int r] H ((missL ds bs (stkL bs ds ks (start1 gain first full r))).map V.int) :=
  fun _ e _ q _ => ⟨c, bs, ds, ks, tb, td, tk, gain, first, full, r, rfl, h.mono e, q⟩
theorem ok_Course__misses_in (T : Txt K mg Z) : FnOk P w K mg base CX0 3 Z.f_Course__misses_in Z.d_Course__misses_in p_Course__misses_in (sp_misses K Z) := by
  refine T.F_Course__misses_in.ok sc_Course__misses_in (fun vs H Q E h => ?_) (fun cdv Ar outer s H vs Q E hr h => ?_)
  · obtain ⟨c, bs, ds, ks, tb, td, tk, gain, first, full, r, rfl, _⟩ := h
    rfl
  · obtain ⟨c, bs, ds, ks, tb, td, tk, gain, first, full, r, rfl, hS, k⟩ := h
    have hP := hS.pr
    have hn := hP.gd.n1
    have hl := hP.gd.ld
    refine ⟨_, (pss_cons (ps_set (i := 2) sc_Course__misses_in.nd rfl (Or.inr rfl) (pe_meth (pv 0) T.cl_Course T.m_Course__stocks_in (ok_Course__stocks_in T) (hr.mono (by decide)) T.b_Course__stocks_in .nil pass0 (pa_cons (pv 1) pa_nil)))
      (pss_one (ps_ret (pe_lc (own := [("at", 3), ("demand", 4)]) rfl sc_Course__misses_in.nd (pi_enumTK K rfl (by rfl) T.b_enumerate (pa_cons (pe_fldK K rfl (pv 0) rfl) pa_nil)) (blkOk_by (own := [("at", 3), ("demand", 4)]) (N := n_Course__misses_in) (sc := defScope s_Course__misses_in) (scope := { kind := PySem.ScopeKind.function, names := [ (PySem.Str.ofString ".0", PySem.NameKind.local), (PySem.Str.ofString "at", PySem.NameKind.local), (PySem.Str.ofString "demand", PySem.NameKind.local), (PySem.Str.ofString "max", PySem.NameKind.globalImplicit), (PySem.Str.ofString "self", PySem.NameKind.free), (PySem.Str.ofString "stocks", PySem.NameKind.free)], isGenerator := false, isCoroutine := false, more := [] : PySem.Scope }) (by decide +kernel)) (fun _ _ _ _ _ => (by exact (pg_tupK K (n := 2) rfl rfl (pgs_cons (pg_name (i := 3) sc_Course__misses_in.nd rfl (Or.inl rfl)) (pgs_cons (pg_name (i := 4) sc_Course__misses_in.nd rfl (Or.inl rfl)) pgs_nil))))) (fun _ _ _ _ _ => pts_nil) (fun _ _ _ _ _ => (pe_callB (r := rMax2) (call_max2 rfl) (by rfl) T.b_max boot_max (pa_cons pe_int (pa_cons (pe_op op_sub (pe_op op_sub (pv 4) (pe_ix (r := rIxL K) ix_list (pv 2) (pv 3) (fun _ _ => rfl))) (pe_ix (r := rIxT K) ix_tup (pe_fldK K rfl (pv 0) rfl) (pv 3) (fun _ _ => rfl))) pa_nil)))))))), ?_⟩
    refine q_asgL (el_meth (ev_var rfl) hS.nf (ea_cons (ev_var rfl) ea_nil) (spl_stocks hS)) fun p H1 hp e1 h1 => ?_
    have hP1 := hP.mono e1
    have fb := hP1.fb
    have fd := hP1.fd
    refine s_retL (xs := (missL ds bs (stkL bs ds ks (start1 gain first full r))).map V.int) ?_ fun q H2 hq e2 h2 => k q H2 (fresh_back e1 hq) (e1.trans e2) h2
    unfold missL
    rw [← rng_map]
    have hdl : (ds.map V.int).length = ds.length := by rw [List.length_map]
    rw [← hdl]
    refine el_lcEnT _ (ea_cons (by walk_at "ev") ea_nil) hP1.hd (by rw [hdl]; omega) (fun _ _ => rfl) fun i x H3 e3 hx => ?_
    obtain ⟨rfl, hi⟩ := at_map hx
    have fb3 := fb.mono e3
    refine ev_maxi ev_c (ev_op (ev_op (ev_var rfl) (ev_ixL (ev_var rfl) (sq_of (e3 p _ h1)) (ev_var rfl) (atI_mapI (i := (i : Int)) (by omega) (by rw [stkL_len]; omega))) rv_I0) (ev_ixT (by walk_at "ev") (ex_t e3 hP1.hb) (ev_var rfl) (atI_mapI (i := (i : Int)) (by omega) (by omega))) rv_I0)
def sp_growing (K : PySem.W.Frag) (Z : Ad) : Sp := fun vs H Q _ => ∃ (c : Addr) (bs ds ks : List Int) (tb td tk : Addr) (gain first full : Int), vs = [.ref c] ∧ SR K Z H c bs ds ks tb td tk gain first full ∧ 0 ≤ gain ∧ RetV (.int (growing gain first full)) H Q
theorem ok_Course__count_growing (T : Txt K mg Z) : FnOk P w K mg base CX0 1 Z.f_Course__count_growing Z.d_Course__count_growing p_Course__count_growing (sp_growing K Z) := by
  refine T.F_Course__count_growing.ok sc_Course__count_growing (fun vs H Q E h => ?_) (fun cdv Ar outer s H vs Q E hr h => ?_)
  · obtain ⟨c, bs, ds, ks, tb, td, tk, gain, first, full, rfl, _⟩ := h
    rfl
  · obtain ⟨c, bs, ds, ks, tb, td, tk, gain, first, full, rfl, hS, hg, k⟩ := h
    have fg := hS.fg
    refine ⟨_, (pss_cons (ps_if (pt_cmpR op_eq (pe_fldK K rfl (pv 0) rfl) pe_int (nomark _)) (pss_one (ps_ret pe_int)) pss_nil)
      (pss_one (ps_ret (pe_un un_neg (pe_op op_fdivW (pe_op op_sub (pe_fldK K rfl (pv 0) rfl) (pe_fldK K rfl (pv 0) rfl)) (pe_fldK K rfl (pv 0) rfl)))))), ?_⟩
    refine q_when (et_test (by walk_at "ev")) (fun hb H1 e1 => ?_) (fun hb H1 e1 => ?_)
    · have hr0 : gain = 0 := by simpa using hb
      refine s_ret ev_c fun H2 e2 => ?_
      have z := k H2 (e1.trans e2)
      unfold growing at z
      rw [if_pos hr0] at z
      exact z
    · have hr0 : ¬ gain = 0 := by simpa using hb
      have fg := hS.fg.mono e1
      have ff := hS.ff.mono e1
      have fu := hS.fu.mono e1
      refine s_ret (ev_un (ev_op (by walk_at "ev") (by walk_at "ev") (rv_I (wide_div (by omega) hS.gb (by decide) (by decide)))) ru_neg) fun H2 e2 => ?_
      have z := k H2 (e1.trans e2)
      unfold growing at z
      rw [if_neg hr0] at z
      exact z
def sp_stock_at (K : PySem.W.Frag) (Z : Ad) : Sp := fun vs H Q _ => ∃ (c : Addr) (bs ds ks : List Int) (tb td tk : Addr) (gain first full day : Int), vs = [.ref c, .int day] ∧ SR K Z H c bs ds ks tb td tk gain first full ∧ RetV (.int (stockI bs ds ks gain first full day)) H Q
theorem spv_stock_at {K : PySem.W.Frag} {Z : Ad} {H : Hp} {c : Addr} {bs ds ks : List Int} {tb td tk : Addr} {gain first full day : Int} (h : SR K Z H c bs ds ks tb td tk gain first full) :
    SpV (sp_stock_at K Z) [.ref c, .int day] H (.int (stockI bs ds ks gain first full day)) :=
  fun _ e _ q _ => ⟨c, bs, ds, ks, tb, td, tk, gain, first, full, day, rfl, h.mono e, q⟩
theorem getD_map {ns : List Int} {i : Nat} : (ns.map V.int).getD i (V.int 0) = V.int (ns.getD i 0) := by
  simp [List.getD]
theorem ok_Course_stock_at (T : Txt K mg Z) : FnOk P w K mg base CX0 3 Z.f_Course_stock_at Z.d_Course_stock_at p_Course_stock_at (sp_stock_at K Z) := by
  refine T.F_Course_stock_at.ok sc_Course_stock_at (fun vs H Q E h => ?_) (fun cdv Ar outer s H vs Q E hr h => ?_)
  · obtain ⟨c, bs, ds, ks, tb, td, tk, gain, first, full, day, rfl, _⟩ := h
    rfl
  · obtain ⟨c, bs, ds, ks, tb, td, tk, gain, first, full, day, rfl, hS, k⟩ := h
    have hP := hS.pr
    have fb := hP.fb
    have h0 := hP.gd.n0
    have h1 := hP.gd.n1
    have hl : ((bs.map V.int).length : Int) = (bs.length : Int) := by rw [List.length_map]
    have hr0 : 0 ≤ day % (bs.length : Int) := Int.emod_nonneg _ (by omega)
    have hr1 : day % (bs.length : Int) < (bs.length : Int) := Int.emod_lt_of_pos _ (by omega)
    refine ⟨_, (pss_cons (ps_asg (pe_callB (r := rDm) (call_divmod) (by rfl) T.b_divmod boot_divmod (pa_cons (pv 1) (pa_cons (pe_callB (r := rLenS K) (call_len_seq) (by rfl) T.b_len boot_len (pa_cons (pe_fldK K rfl (pv 0) rfl) pa_nil)) pa_nil))) (by exact (pg_tupK K (n := 2) rfl rfl (pgs_cons (pg_name (i := 2) sc_Course_stock_at.nd rfl (Or.inl rfl)) (pgs_cons (pg_name (i := 3) sc_Course_stock_at.nd rfl (Or.inl rfl)) pgs_nil)))))
      (pss_one (ps_ret (pe_ix (r := rIxL K) ix_list (pe_meth (pv 0) T.cl_Course T.m_Course__stocks_in (ok_Course__stocks_in T) (hr.mono (by decide)) T.b_Course__stocks_in .nil pass0 (pa_cons (pv 2) pa_nil)) (pv 3) (fun _ _ => rfl))))), ?_⟩
    refine q_pair (eu_dm (ev_var rfl) (Ev.int_eq (ev_lenT (by walk_at "ev") hP.hb) hl) ⟨by omega, by omega⟩) fun H1 e1 => ?_
    refine s_ret (ev_ixNL (el_meth (ev_var rfl) (hS.nf.mono e1) (ea_cons (ev_var rfl) ea_nil) (spl_stocks (hS.mono e1))) (ev_var rfl) (atI_mapI hr0 (by rw [stkL_len]; omega))) fun H2 e2 => ?_
    have z := k H2 (e1.trans e2)
    rw [stkL_get (by omega)]
    exact z
/-- a day's sales: sold, missed, thrown -/
def soldI (bs ds ks : List Int) (gain first full day : Int) : Int := min (stockI bs ds ks gain first full day + bs.getD (day % (bs.length : Int)).toNat 0) (ds.getD (day % (bs.length : Int)).toNat 0)
def endI (bs ds ks : List Int) (gain first full day : Int) : Int := stkAt bs ds ks (start1 gain first full (day / (bs.length : Int))) ((day % (bs.length : Int)).toNat + 1)
def salesI (bs ds ks : List Int) (gain first full day : Int) : List Int :=
  [soldI bs ds ks gain first full day, ds.getD (day % (bs.length : Int)).toNat 0 - soldI bs ds ks gain first full day,
   stockI bs ds ks gain first full day + bs.getD (day % (bs.length : Int)).toNat 0 - soldI bs ds ks gain first full day - endI bs ds ks gain first full day]
def sp_sales_on (K : PySem.W.Frag) (Z : Ad) : Sp := fun vs H Q _ => ∃ (c : Addr) (bs ds ks : List Int) (tb td tk : Addr) (gain first full day : Int), vs = [.ref c, .int day] ∧ SR K Z H c bs ds ks tb td tk gain first full ∧ RetU ((salesI bs ds ks gain first full day).map V.int) H Q
theorem spu_sales_on {K : PySem.W.Frag} {Z : Ad} {H : Hp} {c : Addr} {bs ds ks : List Int} {tb td tk : Addr} {gain first full day : Int} (h : SR K Z H c bs ds ks tb td tk gain first full) :
    SpU (sp_sales_on K Z) [.ref c, .int day] H ((salesI bs ds ks gain first full day).map V.int) :=
  fun _ e _ q _ => ⟨c, bs, ds, ks, tb, td, tk, gain, first, full, day, rfl, h.mono e, q⟩
theorem ok_Course_sales_on (T : Txt K mg Z) : FnOk P w K mg base CX0 3 Z.f_Course_sales_on Z.d_Course_sales_on p_Course_sales_on (sp_sales_on K Z) := by
  refine T.F_Course_sales_on.ok sc_Course_sales_on (fun vs H Q E h => ?_) (fun cdv Ar outer s H vs Q E hr h => ?_)
  · obtain ⟨c, bs, ds, ks, tb, td, tk, gain, first, full, day, rfl, _⟩ := h
    rfl
  · obtain ⟨c, bs, ds, ks, tb, td, tk, gain, first, full, day, rfl, hS, k⟩ := h
    have hP := hS.pr
    have fb := hP.fb
    have h0 := hP.gd.n0
    have h1 := hP.gd.n1
    have hld := hP.gd.ld
    have hl : ((bs.map V.int).length : Int) = (bs.length : Int) := by rw [List.length_map]
    have hr0 : 0 ≤ day % (bs.length : Int) := Int.emod_nonneg _ (by omega)
    have hr1 : day % (bs.length : Int) < (bs.length : Int) := Int.emod_lt_of_pos _ (by omega)
    refine ⟨_, (pss_cons (ps_asg (pe_callB (r := rDm) (call_divmod) (by rfl) T.b_divmod boot_divmod (pa_cons (pv 1) (pa_cons (pe_callB (r := rLenS K) (call_len_seq) (by rfl) T.b_len boot_len (pa_cons (pe_fldK K rfl (pv 0) rfl) pa_nil)) pa_nil))) (by exact (pg_tupK K (n := 2) rfl rfl (pgs_cons (pg_name (i := 2) sc_Course_sales_on.nd rfl (Or.inl rfl)) (pgs_cons (pg_name (i := 3) sc_Course_sales_on.nd rfl (Or.inl rfl)) pgs_nil)))))
      (pss_cons (ps_set (i := 4) sc_Course_sales_on.nd rfl (Or.inl rfl) (pe_meth (pv 0) T.cl_Course T.m_Course__stocks_in (ok_Course__stocks_in T) (hr.mono (by decide)) T.b_Course__stocks_in .nil pass0 (pa_cons (pv 2) pa_nil)))
      (pss_cons (ps_set (i := 5) sc_Course_sales_on.nd rfl (Or.inl rfl) (pe_op op_add (pe_ix (r := rIxL K) ix_list (pv 4) (pv 3) (fun _ _ => rfl)) (pe_ix (r := rIxT K) ix_tup (pe_fldK K rfl (pv 0) rfl) (pv 3) (fun _ _ => rfl))))
      (pss_cons (ps_set (i := 6) sc_Course_sales_on.nd rfl (Or.inl rfl) (pe_callB (r := rMn) (call_min2 rfl) (by rfl) T.b_min boot_min (pa_cons (pv 5) (pa_cons (pe_ix (r := rIxT K) ix_tup (pe_fldK K rfl (pv 0) rfl) (pv 3) (fun _ _ => rfl)) pa_nil))))
      (pss_one (ps_ret (pe_tup (pa_cons (pv 6) (pa_cons (pe_op op_sub (pe_ix (r := rIxT K) ix_tup (pe_fldK K rfl (pv 0) rfl) (pv 3) (fun _ _ => rfl)) (pv 6)) (pa_cons (pe_op op_sub (pe_op op_sub (pv 5) (pv 6)) (pe_ix (r := rIxL K) ix_list (pv 4) (pe_op op_add (pv 3) pe_int) (fun _ _ => rfl))) pa_nil)))))))))), ?_⟩
    refine q_pair (eu_dm (ev_var rfl) (Ev.int_eq (ev_lenT (by walk_at "ev") hP.hb) hl) ⟨by omega, by omega⟩) fun H1 e1 => ?_
    refine q_asgL (el_meth (ev_var rfl) (hS.nf.mono e1) (ea_cons (ev_var rfl) ea_nil) (spl_stocks (hS.mono e1))) fun p H2 hp e2 h2 => ?_
    have hP2 := hP.mono (e1.trans e2)
    have fb := hP2.fb
    have fd := hP2.fd
    refine q_asg (ev_op (ev_ixL (ev_var rfl) (sq_of h2) (ev_var rfl) (atI_mapI hr0 (by rw [stkL_len]; omega))) (ev_ixT (by walk_at "ev") hP2.hb (ev_var rfl) (atI_mapI hr0 hr1)) rv_I0) fun H3 e3 => ?_
    have fd3 := fd.mono e3
    refine q_asg (ev_min2 (ev_var rfl) (ev_ixT (by walk_at "ev") (ex_t e3 hP2.hd) (ev_var rfl) (atI_mapI hr0 (by omega)))) fun H4 e4 => ?_
    have fd4 := fd3.mono e4
    have ht : (day % (bs.length : Int) + 1).toNat = (day % (bs.length : Int)).toNat + 1 := by omega
    refine s_retU (eu_tup (ea_cons (ev_var rfl) (ea_cons (ev_op (ev_ixT (by walk_at "ev") (ex_t (e3.trans e4) hP2.hd) (ev_var rfl) (atI_mapI hr0 (by omega))) (ev_var rfl) rv_I0) (ea_cons (ev_op (ev_op (ev_var rfl) (ev_var rfl) rv_I0) (ev_ixL (ev_var rfl) (sq_of (e4 p _ (e3 p _ h2))) (by walk_at "ev") (atI_mapI (by omega) (by rw [stkL_len]; omega))) rv_I0) ea_nil))) (by show 3 ≤ 100000; decide)) fun q H5 hq e5 h5 => ?_
    refine k q H5 (fresh_back ((e1.trans e2).trans (e3.trans e4)) hq) (((e1.trans e2).trans (e3.trans e4)).trans e5) ?_
    rw [h5, ht, stkL_get (by omega), stkL_get (by omega)]
    rfl
end Sw
namespace Sw
open PySem PySem.Spec PyProof.Rows L2 Evl
local macro_rules | `(tactic| walk_at "ev") => `(tactic| first
  | exact ev_c
  | exact ev_var rfl
  | ((with_reducible show Ev (tCB rMax2 _) _ _ _); exact ev_maxi (by walk_at "ev") (by walk_at "ev"))
  | ((with_reducible show Ev (tCB rMn _) _ _ _); exact ev_min2 (by walk_at "ev") (by walk_at "ev"))
  | ((with_reducible show Ev (tUn _ _) _ _ _); exact ev_un (by walk_at "ev") ru_neg)
  | ((with_reducible show Ev (tFld _ _ _) _ _ _); exact ev_fldK (by walk_at "ev") (by assumption))
  | ((with_reducible show Ev (tOp (rI0 _) _ _) _ _ _); exact ev_op (by walk_at "ev") (by walk_at "ev") rv_I0)
  | ((with_reducible show Ev (tOp rEq _ _) _ _ _); exact ev_op (by walk_at "ev") (by walk_at "ev") (rv_eq rfl))
  | ((with_reducible show Ev (tOp rNe _ _) _ _ _); exact ev_op (by walk_at "ev") (by walk_at "ev") (rv_ne rfl)))

/-! ### find_settled, sum_settled_round, sales_before -/
structure FS (K : PySem.W.Frag) (Z : Ad) (H : Hp) (c : Addr) (bs ds ks : List Int) (tb td tk : Addr) (gain first full : Int) : Prop where
  sr : SR K Z H c bs ds ks tb td tk gain first full
  ng : NoF H c Z.c_Course "_count_growing"
theorem FS.mono {K : PySem.W.Frag} {Z : Ad} {H H' : Hp} {c : Addr} {bs ds ks : List Int} {tb td tk : Addr} {gain first full : Int} (e : Ex H H') (h : FS K Z H c bs ds ks tb td tk gain first full) : FS K Z H' c bs ds ks tb td tk gain first full := ⟨h.sr.mono e, h.ng.mono e⟩
/-- the first day of the round behind the growing ones that is as a round later -/
def SetAt (bs ds ks : List Int) (gain first full : Int) (i : Nat) : Prop := i ≤ bs.length ∧
  stkAt bs ds ks (start1 gain first full (growing gain first full)) i = stkAt bs ds ks (start1 gain first full (growing gain first full + 1)) i ∧
  ∀ j, j < i → stkAt bs ds ks (start1 gain first full (growing gain first full)) j ≠ stkAt bs ds ks (start1 gain first full (growing gain first full + 1)) j
def sp_settled (K : PySem.W.Frag) (Z : Ad) : Sp := fun vs H Q _ => ∃ (c : Addr) (bs ds ks : List Int) (tb td tk : Addr) (gain first full : Int) (i : Nat), vs = [.ref c] ∧ FS K Z H c bs ds ks tb td tk gain first full ∧ 0 ≤ gain ∧ SetAt bs ds ks gain first full i ∧
  RetV (.int (growing gain first full * (bs.length : Int) + (i : Int))) H Q
theorem spv_growing {K : PySem.W.Frag} {Z : Ad} {H : Hp} {c : Addr} {bs ds ks : List Int} {tb td tk : Addr} {gain first full : Int} (h : SR K Z H c bs ds ks tb td tk gain first full) (hg : 0 ≤ gain) :
    SpV (sp_growing K Z) [.ref c] H (.int (growing gain first full)) := fun _ e _ q _ => ⟨c, bs, ds, ks, tb, td, tk, gain, first, full, rfl, h.mono e, hg, q⟩
variable {P : Program} {w : World} {K : PySem.W.Frag} {mg : Str → Option Value} {base : Heap} {Z : Ad}
theorem ok_Course_find_settled (T : Txt K mg Z) : FnOk P w K mg base CX0 3 Z.f_Course_find_settled Z.d_Course_find_settled p_Course_find_settled (sp_settled K Z) := by
  refine T.F_Course_find_settled.ok sc_Course_find_settled (fun vs H Q E h => ?_) (fun cdv Ar outer s H vs Q E hr h => ?_)
  · obtain ⟨c, bs, ds, ks, tb, td, tk, gain, first, full, i, rfl, _⟩ := h
    rfl
  · obtain ⟨c, bs, ds, ks, tb, td, tk, gain, first, full, i, rfl, hF, hg, hi, k⟩ := h
    have hS := hF.sr
    have hP := hS.pr
    have hn := hP.gd.n1
    refine ⟨_, (pss_cons (ps_set (i := 1) sc_Course_find_settled.nd rfl (Or.inl rfl) (pe_meth0 (pv 0) T.cl_Course T.m_Course__count_growing (ok_Course__count_growing T) (hr.mono (by decide)) T.b_Course__count_growing .nil pass0))
      (pss_cons (ps_set (i := 2) sc_Course_find_settled.nd rfl (Or.inl rfl) (pe_meth (pv 0) T.cl_Course T.m_Course__stocks_in (ok_Course__stocks_in T) (hr.mono (by decide)) T.b_Course__stocks_in .nil pass0 (pa_cons (pv 1) pa_nil)))
      (pss_cons (ps_set (i := 3) sc_Course_find_settled.nd rfl (Or.inl rfl) (pe_meth (pv 0) T.cl_Course T.m_Course__stocks_in (ok_Course__stocks_in T) (hr.mono (by decide)) T.b_Course__stocks_in .nil pass0 (pa_cons (pe_op op_add (pv 1) pe_int) pa_nil)))
      (pss_cons (ps_set (i := 4) sc_Course_find_settled.nd rfl (Or.inl rfl) pe_int)
      (pss_cons (ps_while PassesOwn.never (pt_cmpR op_ne (pe_ix (r := rIxL K) ix_list (pv 2) (pv 4) (fun _ _ => rfl)) (pe_ix (r := rIxL K) ix_list (pv 3) (pv 4) (fun _ _ => rfl)) (nomark _)) (pss_one (ps_aug (i := 4) sc_Course_find_settled.nd rfl (Or.inl rfl) pe_int in_add)))
      (pss_one (ps_ret (pe_op op_add (pe_op op_mul (pv 1) (pe_callB (r := rLenS K) (call_len_seq) (by rfl) T.b_len boot_len (pa_cons (pe_fldK K rfl (pv 0) rfl) pa_nil))) (pv 4))))))))), ?_⟩
    refine q_asg (ev_meth (ev_var rfl) hF.ng ea_nil (spv_growing hS hg)) fun H1 e1 => ?_
    refine q_asgL (el_meth (ev_var rfl) (hS.nf.mono e1) (ea_cons (ev_var rfl) ea_nil) (spl_stocks (hS.mono e1))) fun p H2 hp e2 h2 => ?_
    refine q_asgL (el_meth (ev_var rfl) (hS.nf.mono (e1.trans e2)) (ea_cons (by walk_at "ev") ea_nil) (spl_stocks (hS.mono (e1.trans e2)))) fun q H3 hq e3 h3 => ?_
    refine q_asg ev_c fun H4 e4 => ?_
    refine q_while (fun m σ' H' => ∃ j : Nat, m = i - j ∧ j ≤ i ∧ σ' = [some (.ref c), some (.int (growing gain first full)), some (.ref p), some (.ref q), some (.int (j : Int))] ∧ Ex H4 H') i ⟨0, rfl, Nat.zero_le _, rfl, Ex.refl _⟩ ?_
    rintro m σ' H' ⟨j, rfl, hj, rfl, e5⟩
    have hjn : j ≤ bs.length := Nat.le_trans hj hi.1
    refine ⟨!decide (stkAt bs ds ks (start1 gain first full (growing gain first full)) j = stkAt bs ds ks (start1 gain first full (growing gain first full + 1)) j), ?_, fun hb H5 e6 => ?_, fun hb H5 e6 => ?_⟩
    · refine et_test ?_
      refine ev_is (ev_op (ev_ixL (ev_var rfl) (sq_of (e5 _ _ (e4 _ _ (e3 _ _ h2)))) (ev_var rfl) (atI_mapI (i := (j : Int)) (by omega) (by rw [stkL_len]; omega)))
        (ev_ixL (ev_var rfl) (sq_of (e5 _ _ (e4 _ _ h3))) (ev_var rfl) (atI_mapI (i := (j : Int)) (by omega) (by rw [stkL_len]; omega))) (rv_ne rfl)) ?_
      rw [Int.toNat_natCast, stkL_get hjn, stkL_get hjn]
      simp
    · have hne : stkAt bs ds ks (start1 gain first full (growing gain first full)) j ≠ stkAt bs ds ks (start1 gain first full (growing gain first full + 1)) j := by simpa using hb
      have hlt : j < i := by
        rcases Nat.lt_or_ge j i with z | z
        · exact z
        · have : j = i := by omega
          subst this
          exact absurd hi.2.1 hne
      refine ⟨fun σ2 H2 => ∃ m', m' < i - j ∧ ∃ j' : Nat, m' = i - j' ∧ j' ≤ i ∧ σ2 = [some (.ref c), some (.int (growing gain first full)), some (.ref p), some (.ref q), some (.int (j' : Int))] ∧ Ex H4 H2, fun σ2 H2 h => h, ?_⟩
      refine s_aug (a := (j : Int)) (b := 1) rfl ev_c fun H6 e7 => ?_
      exact ⟨i - (j + 1), by omega, j + 1, rfl, hlt, rfl, (e5.trans e6).trans e7⟩
    · have heq : stkAt bs ds ks (start1 gain first full (growing gain first full)) j = stkAt bs ds ks (start1 gain first full (growing gain first full + 1)) j := by simpa using hb
      have hji : j = i := by
        rcases Nat.lt_or_ge j i with z | z
        · exact absurd heq (hi.2.2 j z)
        · omega
      subst hji
      have eA : Ex H H5 := ((((e1.trans e2).trans e3).trans e4).trans e5).trans e6
      have fb := hP.fb.mono eA
      have hl : ((bs.map V.int).length : Int) = (bs.length : Int) := by rw [List.length_map]
      refine s_ret (ev_op (ev_op (ev_var rfl) (Ev.int_eq (ev_lenT (by walk_at "ev") (ex_t eA hP.hb)) hl) (rv_I (wide_ok (by omega)))) (ev_var rfl) rv_I0) fun H6 e7 => k H6 (eA.trans e7)
/-- the whole course -/
structure CO (K : PySem.W.Frag) (Z : Ad) (H : Hp) (c : Addr) (bs ds ks : List Int) (gain first full : Int) (fm lm : List Int) : Prop where
  sr : ∃ tb td tk, SR K Z H c bs ds ks tb td tk gain first full
  ffm : ∃ tf, FlK K H c Z.c_Course "_first_misses" (.ref tf) ∧ SqL K H tf (fm.map V.int)
  flm : ∃ tl, FlK K H c Z.c_Course "_later_misses" (.ref tl) ∧ SqL K H tl (lm.map V.int)
  lfm : fm.length = bs.length
  llm : lm.length = bs.length
  slm : lm.sum.natAbs ≤ 2 ^ 40
  sb : bs.sum.natAbs ≤ 2 ^ 40
  sd : ds.sum.natAbs ≤ 2 ^ 40
  nf : ∀ m : Str, m ∈ (["stock_at", "sales_on", "sales_before", "find_settled", "sum_settled_round", "loaves_at", "_misses_in", "_count_growing"] : List Str) → NoF H c Z.c_Course m
theorem CO.mono {K : PySem.W.Frag} {Z : Ad} {H H' : Hp} {c : Addr} {bs ds ks : List Int} {gain first full : Int} {fm lm : List Int} (e : Ex H H') (h : CO K Z H c bs ds ks gain first full fm lm) : CO K Z H' c bs ds ks gain first full fm lm :=
  ⟨let ⟨a, b, c, x⟩ := h.sr; ⟨a, b, c, x.mono e⟩, let ⟨a, x, y⟩ := h.ffm; ⟨a, x.mono e, ex_l e y⟩, let ⟨a, x, y⟩ := h.flm; ⟨a, x.mono e, ex_l e y⟩, h.lfm, h.llm, h.slm, h.sb, h.sd, fun m hm => (h.nf m hm).mono e⟩
def longI (bs ds lm : List Int) : List Int := [ds.sum - lm.sum, lm.sum, bs.sum - (ds.sum - lm.sum)]
def sp_sumround (K : PySem.W.Frag) (Z : Ad) : Sp := fun vs H Q _ => ∃ (c : Addr) (bs ds ks : List Int) (gain first full : Int) (fm lm : List Int), vs = [.ref c] ∧ CO K Z H c bs ds ks gain first full fm lm ∧ RetU ((longI bs ds lm).map V.int) H Q
theorem ok_Course_sum_settled_round (T : Txt K mg Z) : FnOk P w K mg base CX0 1 Z.f_Course_sum_settled_round Z.d_Course_sum_settled_round p_Course_sum_settled_round (sp_sumround K Z) := by
  refine T.F_Course_sum_settled_round.ok sc_Course_sum_settled_round (fun vs H Q E h => ?_) (fun cdv Ar outer s H vs Q E hr h => ?_)
  · obtain ⟨c, bs, ds, ks, gain, first, full, fm, lm, rfl, _⟩ := h
    rfl
  · obtain ⟨c, bs, ds, ks, gain, first, full, fm, lm, rfl, hC, k⟩ := h
    obtain ⟨tb, td, tk, hS⟩ := hC.sr
    obtain ⟨tl, fl, hl⟩ := hC.flm
    have hP := hS.pr
    have fd := hP.fd
    refine ⟨_, (pss_cons (ps_set (i := 1) sc_Course_sum_settled_round.nd rfl (Or.inl rfl) (pe_callB (r := rSum K) (cr_sum rfl) (by rfl) T.b_sum boot_sum (pa_cons (pe_fldK K rfl (pv 0) rfl) pa_nil)))
      (pss_cons (ps_set (i := 2) sc_Course_sum_settled_round.nd rfl (Or.inl rfl) (pe_op op_sub (pe_callB (r := rSumT K) (cr_sumT rfl) (by rfl) T.b_sum boot_sum (pa_cons (pe_fldK K rfl (pv 0) rfl) pa_nil)) (pv 1)))
      (pss_one (ps_ret (pe_tup (pa_cons (pv 2) (pa_cons (pv 1) (pa_cons (pe_op op_sub (pe_callB (r := rSumT K) (cr_sumT rfl) (by rfl) T.b_sum boot_sum (pa_cons (pe_fldK K rfl (pv 0) rfl) pa_nil)) (pv 2)) pa_nil)))))))), ?_⟩
    refine q_asg (ev_sumL (by walk_at "ev") hl) fun H1 e1 => ?_
    have fd := hP.fd.mono e1
    refine q_asg (ev_op (ev_sumT (by walk_at "ev") (ex_t e1 hP.hd)) (by walk_at "ev") rv_I0) fun H2 e2 => ?_
    have fb := hP.fb.mono (e1.trans e2)
    refine s_retU (eu_tup (ea_cons (ev_var rfl) (ea_cons (ev_var rfl) (ea_cons (ev_op (ev_sumT (by walk_at "ev") (ex_t (e1.trans e2) hP.hb)) (ev_var rfl) rv_I0) ea_nil))) (by show 3 ≤ 100000; decide)) fun q H3 hq e3 h3 => k q H3 (fresh_back (e1.trans e2) hq) ((e1.trans e2).trans e3) h3
/-- the first so many days -/
def missedI (bs fm lm : List Int) (days : Int) : Int := (fm.take days.toNat).sum + sumRep lm (max 0 (days - (bs.length : Int)))
def totI (bs ds ks : List Int) (gain first full : Int) (fm lm : List Int) (days : Int) : List Int :=
  [sumRep ds days - missedI bs fm lm days, missedI bs fm lm days, sumRep bs days - (sumRep ds days - missedI bs fm lm days) - stockI bs ds ks gain first full days]
def sp_before (K : PySem.W.Frag) (Z : Ad) : Sp := fun vs H Q _ => ∃ (c : Addr) (bs ds ks : List Int) (gain first full : Int) (fm lm : List Int) (days : Int), vs = [.ref c, .int days] ∧ 0 ≤ days ∧ CO K Z H c bs ds ks gain first full fm lm ∧ RetU ((totI bs ds ks gain first full fm lm days).map V.int) H Q
theorem spv_sumrep {K : PySem.W.Frag} {H : Hp} {a : Addr} {am : List Int} {days : Int} (h : SqT K H a (am.map V.int) ∨ SqL K H a (am.map V.int)) (h0 : 0 < am.length) (h1 : am.length ≤ 24) (h2 : am.sum.natAbs ≤ 2 ^ 40) :
    SpV (sp_sum_repeated K) [.ref a, .int days] H (.int (sumRep am days)) := fun _ e _ q _ => ⟨a, am, days, rfl, h.imp (ex_t e) (ex_l e), h0, h1, h2, q⟩
theorem ok_Course_sales_before (T : Txt K mg Z) : FnOk P w K mg base CX0 4 Z.f_Course_sales_before Z.d_Course_sales_before p_Course_sales_before (sp_before K Z) := by
  refine T.F_Course_sales_before.ok sc_Course_sales_before (fun vs H Q E h => ?_) (fun cdv Ar outer s H vs Q E hr h => ?_)
  · obtain ⟨c, bs, ds, ks, gain, first, full, fm, lm, days, rfl, _⟩ := h
    rfl
  · obtain ⟨c, bs, ds, ks, gain, first, full, fm, lm, days, rfl, hd0, hC, k⟩ := h
    obtain ⟨tb, td, tk, hS⟩ := hC.sr
    have hP := hS.pr
    have h0 := hP.gd.n0
    have h1 := hP.gd.n1
    have hld := hP.gd.ld
    have fb := hP.fb
    have hdn : days = ((days.toNat : Nat) : Int) := by omega
    have hl : ((bs.map V.int).length : Int) = (bs.length : Int) := by rw [List.length_map]
    refine ⟨_, (pss_cons (ps_set (i := 2) sc_Course_sales_before.nd rfl (Or.inl rfl) (pe_callB (r := rMax2) (call_max2 rfl) (by rfl) T.b_max boot_max (pa_cons pe_int (pa_cons (pe_op op_sub (pv 1) (pe_callB (r := rLenS K) (call_len_seq) (by rfl) T.b_len boot_len (pa_cons (pe_fldK K rfl (pv 0) rfl) pa_nil))) pa_nil))))
      (pss_cons (ps_set (i := 3) sc_Course_sales_before.nd rfl (Or.inl rfl) (pe_op op_add (pe_callB (r := rSum K) (cr_sum rfl) (by rfl) T.b_sum boot_sum (pa_cons (pe_slice (r := rSlL K) sl_list (pe_fldK K rfl (pv 0) rfl) po_none (po_some (pv 1))) pa_nil)) (pe_call (ok_sum_repeated T) (hr.mono (by decide)) (by rfl) T.g_sum_repeated T.F_sum_repeated.kp T.b_sum_repeated .nil pass0 (pa_cons (pe_fldK K rfl (pv 0) rfl) (pa_cons (pv 2) pa_nil)))))
      (pss_cons (ps_set (i := 4) sc_Course_sales_before.nd rfl (Or.inl rfl) (pe_op op_sub (pe_call (ok_sum_repeated T) (hr.mono (by decide)) (by rfl) T.g_sum_repeated T.F_sum_repeated.kp T.b_sum_repeated .nil pass0 (pa_cons (pe_fldK K rfl (pv 0) rfl) (pa_cons (pv 1) pa_nil))) (pv 3)))
      (pss_one (ps_ret (pe_tup (pa_cons (pv 4) (pa_cons (pv 3) (pa_cons (pe_op op_sub (pe_op op_sub (pe_call (ok_sum_repeated T) (hr.mono (by decide)) (by rfl) T.g_sum_repeated T.F_sum_repeated.kp T.b_sum_repeated .nil pass0 (pa_cons (pe_fldK K rfl (pv 0) rfl) (pa_cons (pv 1) pa_nil))) (pv 4)) (pe_meth (pv 0) T.cl_Course T.m_Course_stock_at (ok_Course_stock_at T) (hr.mono (by decide)) T.b_Course_stock_at .nil pass0 (pa_cons (pv 1) pa_nil))) pa_nil))))))))), ?_⟩
    refine q_asg (ev_maxi ev_c (ev_op (ev_var rfl) (Ev.int_eq (ev_lenT (by walk_at "ev") hP.hb) hl) rv_I0)) fun H1 e1 => ?_
    have hC1 := hC.mono e1
    obtain ⟨tf, ff, hf⟩ := hC1.ffm
    obtain ⟨tl, fl, hlm⟩ := hC1.flm
    refine q_asg (ev_op (ev_sumM (ns := fm.take days.toNat) ?_) (ev_call (vs := [.ref tl, .int (max 0 (days - (bs.length : Int)))]) (ea_cons (by walk_at "ev") (ea_cons (ev_var rfl) ea_nil)) (spv_sumrep (.inr hlm) (by rw [hC.llm]; omega) (by rw [hC.llm]; omega) hC.slm)) rv_I0) fun H2 e2 => ?_
    · rw [List.map_take]
      exact EvL.m (el_take (em_of (by walk_at "ev") hf) (Ev.int_eq (ev_var rfl) hdn))
    have hP2 := hP.mono (e1.trans e2)
    have fd := hP2.fd
    refine q_asg (ev_op (ev_call (vs := [.ref td, .int days]) (ea_cons (by walk_at "ev") (ea_cons (ev_var rfl) ea_nil)) (spv_sumrep (.inl hP2.hd) (by omega) (by omega) hC.sd)) (ev_var rfl) rv_I0) fun H3 e3 => ?_
    have eA := (e1.trans e2).trans e3
    have hP3 := hP.mono eA
    have fb3 := hP3.fb
    refine s_retU (eu_tup (ea_cons (ev_var rfl) (ea_cons (ev_var rfl) (ea_cons (ev_op (ev_op (ev_call (vs := [.ref tb, .int days]) (ea_cons (by walk_at "ev") (ea_cons (ev_var rfl) ea_nil)) (spv_sumrep (.inl hP3.hb) (by omega) (by omega) hC.sb)) (ev_var rfl) rv_I0)
      (ev_meth (ev_var rfl) (((hC.nf _ (by decide)).mono eA)) (ea_cons (ev_var rfl) ea_nil) (spv_stock_at (hS.mono eA))) rv_I0) ea_nil))) (by show 3 ≤ 100000; decide)) fun q H4 hq e4 h4 => k q H4 (fresh_back eA hq) (eA.trans e4) h4
end Sw
namespace Sw
open PySem PySem.Spec PyProof.Rows L2 Evl
local macro_rules | `(tactic| walk_at "ev") => `(tactic| first
  | exact ev_c
  | exact ev_var rfl
  | ((with_reducible show Ev (tCB rMax2 _) _ _ _); exact ev_maxi (by walk_at "ev") (by walk_at "ev"))
  | ((with_reducible show Ev (tCB rMn _) _ _ _); exact ev_min2 (by walk_at "ev") (by walk_at "ev"))
  | ((with_reducible show Ev (tUn _ _) _ _ _); exact ev_un (by walk_at "ev") ru_neg)
  | ((with_reducible show Ev (tFld _ _ _) _ _ _); exact ev_fldK (by walk_at "ev") (by assumption))
  | ((with_reducible show Ev (tOp (rI0 _) _ _) _ _ _); exact ev_op (by walk_at "ev") (by walk_at "ev") rv_I0)
  | ((with_reducible show Ev (tOp rEq _ _) _ _ _); exact ev_op (by walk_at "ev") (by walk_at "ev") (rv_eq rfl))
  | ((with_reducible show Ev (tOp rNe _ _) _ _ _); exact ev_op (by walk_at "ev") (by walk_at "ev") (rv_ne rfl)))

/-! ### what a course is made with -/
def gainOf (bs ds : List Int) : Int := max 0 (bs.sum - ds.sum)
def firstOf (bs ds ks : List Int) : Int := stkAt bs ds ks 0 bs.length
def fullOf (bs ds ks : List Int) : Int := stkAt bs ds ks (ks.getD 0 0 + ds.getD 0 0) bs.length
def fmOf (bs ds ks : List Int) : List Int := missL ds bs (stkL bs ds ks (start1 (gainOf bs ds) (firstOf bs ds ks) (fullOf bs ds ks) 0))
def lmOf (bs ds ks : List Int) : List Int := missL ds bs (stkL bs ds ks (start1 (gainOf bs ds) (firstOf bs ds ks) (fullOf bs ds ks) 1))
theorem sum_bound {xs : List Int} {M : Int} (hM : 0 ≤ M) (h : ∀ x ∈ xs, 0 ≤ x ∧ x ≤ M) : 0 ≤ xs.sum ∧ xs.sum ≤ (xs.length : Int) * M := by
  induction xs with
  | nil => simp
  | cons a r ih =>
    have h1 := h a (by simp)
    have h2 := ih fun x hx => h x (by simp [hx])
    rw [List.sum_cons, List.length_cons]
    have e : ((r.length + 1 : Nat) : Int) * M = (r.length : Int) * M + M := by
      rw [Int.natCast_add, Int.add_mul]; simp
    omega
theorem sum_small {xs : List Int} (hl : xs.length ≤ 24) (h : ∀ x ∈ xs, 0 ≤ x ∧ x ≤ 1000000000) : 0 ≤ xs.sum ∧ xs.sum ≤ 24000000000 := by
  have z := sum_bound (by omega : (0 : Int) ≤ 1000000000) h
  have : (xs.length : Int) * 1000000000 ≤ 24 * 1000000000 := Int.mul_le_mul_of_nonneg_right (by omega) (by omega)
  omega
theorem getD_mem0 {xs : List Int} {i : Nat} (h : ∀ x ∈ xs, 0 ≤ x ∧ x ≤ 1000000000) : 0 ≤ xs.getD i 0 ∧ xs.getD i 0 ≤ 1000000000 := by
  by_cases hi : i < xs.length
  · have e : xs.getD i 0 = xs[i] := by simp [List.getD, hi]
    rw [e]; exact h _ (List.getElem_mem hi)
  · have e : xs.getD i 0 = 0 := by simp [List.getD, List.getElem?_eq_none (Nat.le_of_not_lt hi)]
    rw [e]; omega
theorem keepAt_nn {bs : List Int} {life : Int} {i : Nat} (h : ∀ x ∈ bs, 0 ≤ x ∧ x ≤ 1000000000) : 0 ≤ keepAt bs life i := by
  unfold keepAt
  generalize (life - 1).toNat = m
  induction m with
  | zero => simp
  | succ m ih =>
    rw [List.range_succ, List.map_append, List.sum_append]
    have z := (getD_mem0 (i := ((((i : Int) - (m : Int)) % (bs.length : Int)).toNat)) h).1
    simp at z ih ⊢
    omega
theorem keepL_nn {bs : List Int} {life : Int} (h : ∀ x ∈ bs, 0 ≤ x ∧ x ≤ 1000000000) {i : Nat} : 0 ≤ (keepL bs life).getD i 0 := by
  unfold keepL
  by_cases hi : i < bs.length
  · have e : ((List.range bs.length).map (keepAt bs life)).getD i 0 = keepAt bs life i := by simp [List.getD, List.getElem?_range hi]
    rw [e]; exact keepAt_nn h
  · have e : ((List.range bs.length).map (keepAt bs life)).getD i 0 = 0 := by
      simp [List.getD, List.getElem?_eq_none (show (List.map (keepAt bs life) (List.range bs.length)).length ≤ i by simp; omega)]
    rw [e]; omega
theorem stp_nn {s b d k : Int} (hk : 0 ≤ k) : 0 ≤ stp s b d k := by unfold stp; omega
theorem stkAt_nn {bs ds ks : List Int} {s : Int} (hs : 0 ≤ s) (hk : ∀ i, 0 ≤ ks.getD i 0) (i : Nat) : 0 ≤ stkAt bs ds ks s i := by
  cases i with
  | zero => exact hs
  | succ i => exact stp_nn (hk i)
theorem missL_len {ds bs st : List Int} : (missL ds bs st).length = ds.length := by simp [missL]
theorem missL_small {ds bs st : List Int} (hd : ∀ x ∈ ds, 0 ≤ x ∧ x ≤ 1000000000) (hb : ∀ i, 0 ≤ bs.getD i 0) (hs : ∀ i, i < ds.length → 0 ≤ st.getD i 0) : ∀ x ∈ missL ds bs st, 0 ≤ x ∧ x ≤ 1000000000 := by
  intro x hx
  unfold missL at hx
  obtain ⟨i, hi, rfl⟩ := List.mem_map.mp hx
  have h1 := hb i
  have h2 := hs i (List.mem_range.mp hi)
  have h3 := getD_mem0 (i := i) hd
  omega
theorem start1_nn {gain first full r : Int} (hg : 0 ≤ gain) (hf : 0 ≤ first) (hu : 0 ≤ full) (hr : 0 ≤ r) : 0 ≤ start1 gain first full r := by
  unfold start1
  by_cases h : r = 0
  · rw [if_pos h]; omega
  · rw [if_neg h]
    have : 0 ≤ (r - 1) * gain := Int.mul_nonneg (by omega) hg
    omega
structure CoM (bs ds ks : List Int) : Prop where
  gd : Good bs ds
  kl : ks.length = bs.length
  kn : ∀ i, 0 ≤ ks.getD i 0
theorem CoM.first {bs ds ks : List Int} (h : CoM bs ds ks) : 0 ≤ firstOf bs ds ks := stkAt_nn (by omega) h.kn _
theorem CoM.full {bs ds ks : List Int} (h : CoM bs ds ks) : 0 ≤ fullOf bs ds ks := stkAt_nn (by have := h.kn 0; have := (getD_mem0 (i := 0) h.gd.d0).1; omega) h.kn _
theorem CoM.gainb {bs ds ks : List Int} (h : CoM bs ds ks) : 0 ≤ gainOf bs ds ∧ gainOf bs ds ≤ 24000000000 := by
  have z1 := sum_small h.gd.n1 h.gd.b0
  have z2 := sum_small (by have := h.gd.ld; have := h.gd.n1; omega) h.gd.d0
  unfold gainOf; omega
theorem CoM.miss {bs ds ks : List Int} (h : CoM bs ds ks) {r : Int} (hr : 0 ≤ r) : ∀ x ∈ missL ds bs (stkL bs ds ks (start1 (gainOf bs ds) (firstOf bs ds ks) (fullOf bs ds ks) r)), 0 ≤ x ∧ x ≤ 1000000000 := by
  refine missL_small h.gd.d0 (fun i => (getD_mem0 h.gd.b0).1) fun i hi => ?_
  rw [stkL_get (by have := h.gd.ld; omega)]
  exact stkAt_nn (start1_nn h.gainb.1 h.first h.full hr) h.kn i
/-- from H to S, what is not of M is kept, and what is of M is known -/
structure Go (M : Addr → Prop) (a : Addr) (H S : Hp) : Prop where
  ex : Ex (wn H M) (wn S M)
  kn : ∀ b, M b → S b ≠ none
  al : ∀ b o, H b = some o → b ≠ a → S b = some o
theorem Go.up {M : Addr → Prop} {H H1 : Hp} {a : Addr} {o : HO} (ha : M a) (kn : ∀ b, M b → H b ≠ none) (e : Ex H H1) : Go M a H (upd H1 a o) := by
  refine ⟨(wn_mono e).trans (wn_upd ha), fun b hb q => ?_, fun b u h z => by rw [upd_ne z]; exact e b u h⟩
  by_cases z : b = a
  · rw [z, upd_same] at q; cases q
  · rw [upd_ne z] at q
    cases hh : H b with
    | none => exact kn b hb hh
    | some u => rw [e b u hh] at q; cases q
/-- the finished course of a bakery -/
def CoAt (K : PySem.W.Frag) (Z : Ad) (H : Hp) (c : Addr) (bs ds ks : List Int) : Prop :=
  CO K Z H c bs ds ks (gainOf bs ds) (firstOf bs ds ks) (fullOf bs ds ks) (fmOf bs ds ks) (lmOf bs ds ks)
def sp_Cinit (K : PySem.W.Frag) (Z : Ad) : Sp := fun vs H Q _ => ∃ (x dx tb td : Addr) (bs ds : List Int) (life : Int) (N : Addr → Prop), vs = [.ref x, .ref tb, .ref td, .int life] ∧ H x = some (.ins Z.c_Course dx []) ∧
  SqT K (wn H N) tb (bs.map V.int) ∧ SqT K (wn H N) td (ds.map V.int) ∧ Good bs ds ∧ 1 ≤ life ∧ life ≤ 30 ∧
  (∀ b, N b → H b ≠ none) ∧ ¬ N x ∧ ∀ H', CoAt K Z (wn H' N) x bs ds (keepL bs life) → (∀ b o, H b = some o → b ≠ x → H' b = some o) → Q .non H'
theorem spl_keep {K : PySem.W.Frag} {H : Hp} {a : Addr} {bs : List Int} {life : Int} (h : SqT K H a (bs.map V.int)) (h0 : 0 < bs.length) (h1 : bs.length ≤ 24) (h2 : 1 ≤ life) (h3 : life ≤ 30) :
    SpL (sp_count_keepable K) [.ref a, .int life] H ((keepL bs life).map V.int) := fun _ e _ q _ => ⟨a, bs, life, rfl, ex_t e h, h0, h1, h2, h3, q⟩
theorem keepL_len {bs : List Int} {life : Int} : (keepL bs life).length = bs.length := by simp [keepL]
theorem atI_neg1 {xs : List Int} {n : Nat} (h : xs.length = n + 1) : atI (xs.map V.int) (-1) = some (.int (xs.getD n 0)) := by
  have e : ixN (xs.map V.int).length (-1) = some n := by
    unfold ixN
    rw [List.length_map, h]
    rw [if_neg (by omega), if_pos (by omega)]
    congr 1
    omega
  unfold atI
  rw [e]
  simp [List.getD, h]
theorem flk_of {K : PySem.W.Frag} {S : Hp} {x C dx : Addr} {fs : List (Str × V)} {f : Str} {v : V} (h : S x = some (.ins C dx fs)) (c : Cls K C) (n : NoAttr K C f) (l : fs.lookup f = some v) : FlK K S x C f v := ⟨⟨dx, fs, h, l⟩, c, n⟩
def cf3 (tb td tk : Addr) : List (Str × V) := putF "_keepable" (.ref tk) (putF "_demands" (.ref td) (putF "_bakes" (.ref tb) []))
def cf6 (tb td tk : Addr) (g a b : Int) : List (Str × V) := putF "_full_end" (.int b) (putF "_first_end" (.int a) (putF "_gain" (.int g) (cf3 tb td tk)))
def cf8 (tb td tk tf tl : Addr) (g a b : Int) : List (Str × V) := putF "_later_misses" (.ref tl) (putF "_first_misses" (.ref tf) (cf6 tb td tk g a b))
section
variable {K : PySem.W.Frag} {σ : L2.St} {H : Hp} {ta te : TE} {v : V} {a C dx : Addr} {fs : List (Str × V)} {f : Str} {D : Ends} {tz : TS}
variable {M : Addr → Prop}
/-- self.f = e while self is being made -/
theorem q_self (ha : M a) (kn : ∀ b, M b → H b ≠ none) (h : Ev te σ H v) (ho : ∀ H1, Ex H H1 → Ev ta σ H1 (.ref a)) (hx : H a = some (.ins C dx fs)) (c : Cls K C) (n : NoAttr K C f) (hl : fs.length < 1000)
    (k : ∀ S : Hp, S a = some (.ins C dx (putF f v fs)) → Go M a H S → tz D σ S) : tSeq (sFld K ta te f) tz D σ H := q_fld h ho hx c n hl fun H1 e => k _ upd_same (Go.up ha kn e)
theorem fresh_l {H H1 : Hp} {p : Addr} {xs : List V} {o : HO} (ha : M a) (kn : ∀ b, M b → H b ≠ none) (hp : H p = none) (h1 : H1 p = some (.lst xs)) : SqL K (wn (upd H1 a o) M) p xs := by
  have q : ¬ M p := fun z => kn p z hp
  have nb : p ≠ a := fun z => q (by rw [z]; exact ha)
  exact sq_of (by rw [wn_ni q, upd_ne nb]; exact h1)
theorem fresh_t {H H1 : Hp} {p : Addr} {xs : List V} {o : HO} (ha : M a) (kn : ∀ b, M b → H b ≠ none) (hp : H p = none) (h1 : H1 p = some (.tup xs)) : SqT K (wn (upd H1 a o) M) p xs := by
  have q : ¬ M p := fun z => kn p z hp
  have nb : p ≠ a := fun z => q (by rw [z]; exact ha)
  exact st_of (by rw [wn_ni q, upd_ne nb]; exact h1)
theorem q_selfL {xs : List V} (ha : M a) (kn : ∀ b, M b → H b ≠ none) (h : EvL te σ H xs) (ho : ∀ H1, Ex H H1 → Ev ta σ H1 (.ref a)) (hx : H a = some (.ins C dx fs)) (c : Cls K C) (n : NoAttr K C f) (hl : fs.length < 1000)
    (k : ∀ (p : Addr) (S : Hp), SqL K (wn S M) p xs → S a = some (.ins C dx (putF f (.ref p) fs)) → Go M a H S → tz D σ S) : tSeq (sFld K ta te f) tz D σ H := q_fldL h ho hx c n hl fun p H1 hp e h1 =>
  k p _ (fresh_l ha kn hp h1) upd_same (Go.up ha kn e)
theorem s_selfL {xs : List V} (ha : M a) (kn : ∀ b, M b → H b ≠ none) (h : EvL te σ H xs) (ho : ∀ H1, Ex H H1 → Ev ta σ H1 (.ref a)) (hx : H a = some (.ins C dx fs)) (c : Cls K C) (n : NoAttr K C f) (hl : fs.length < 1000)
    (k : ∀ (p : Addr) (S : Hp), SqL K (wn S M) p xs → S a = some (.ins C dx (putF f (.ref p) fs)) → Go M a H S → D.nx σ S) : sFld K ta te f D σ H := s_fldL h ho hx c n hl fun p H1 hp e h1 =>
  k p _ (fresh_l ha kn hp h1) upd_same (Go.up ha kn e)
theorem q_selfU {xs : List V} (ha : M a) (kn : ∀ b, M b → H b ≠ none) (h : EvU te σ H xs) (ho : ∀ H1, Ex H H1 → Ev ta σ H1 (.ref a)) (hx : H a = some (.ins C dx fs)) (c : Cls K C) (n : NoAttr K C f) (hl : fs.length < 1000)
    (k : ∀ (p : Addr) (S : Hp), SqT K (wn S M) p xs → S a = some (.ins C dx (putF f (.ref p) fs)) → Go M a H S → D.nx σ S) : sFld K ta te f D σ H := s_fldU h ho hx c n hl fun p H1 hp e h1 =>
  k p _ (fresh_t ha kn hp h1) upd_same (Go.up ha kn e)
end
variable {P : Program} {w : World} {K : PySem.W.Frag} {mg : Str → Option Value} {base : Heap} {Z : Ad}
theorem ok_Course___init__ (T : Txt K mg Z) : FnOk P w K mg base CX0 4 Z.f_Course___init__ Z.d_Course___init__ p_Course___init__ (sp_Cinit K Z) := by
  refine T.F_Course___init__.ok sc_Course___init__ (fun vs H Q E h => ?_) (fun cdv Ar outer s H vs Q E hr h => ?_)
  · obtain ⟨x, dx, tb, td, bs, ds, life, N, rfl, _⟩ := h
    rfl
  · obtain ⟨x, dx, tb, td, bs, ds, life, N, rfl, hx, hb, hd, gd, l0, l1, hN, nNx, k⟩ := h
    have hM : nx x N x := .inl rfl
    have cl := T.cl_Course
    have hbw : SqT K (wn H (nx x N)) tb (bs.map V.int) := wn_tx hx hb
    have hdw : SqT K (wn H (nx x N)) td (ds.map V.int) := wn_tx hx hd
    have kn0 : ∀ b, nx x N b → H b ≠ none := fun b z q => z.elim (fun e => by rw [e, hx] at q; cases q) fun e => hN b e q
    refine ⟨_, (pss_cons (ps_fld (pv 0) (pv 1) rfl)
      (pss_cons (ps_fld (pv 0) (pv 2) rfl)
      (pss_cons (ps_fld (pv 0) (pe_call (ok_count_keepable T) (hr.mono (by decide)) (by rfl) T.g_count_keepable T.F_count_keepable.kp T.b_count_keepable .nil pass0 (pa_cons (pv 1) (pa_cons (pv 3) pa_nil))) rfl)
      (pss_cons (ps_fld (pv 0) (pe_callB (r := rMax2) (call_max2 rfl) (by rfl) T.b_max boot_max (pa_cons pe_int (pa_cons (pe_op op_sub (pe_callB (r := rSumT K) (cr_sumT rfl) (by rfl) T.b_sum boot_sum (pa_cons (pv 1) pa_nil)) (pe_callB (r := rSumT K) (cr_sumT rfl) (by rfl) T.b_sum boot_sum (pa_cons (pv 2) pa_nil))) pa_nil))) rfl)
      (pss_cons (ps_fld (pv 0) (pe_ix (r := rIxL K) ix_list (pe_meth (pv 0) T.cl_Course T.m_Course__play_round (ok_Course__play_round T) (hr.mono (by decide)) T.b_Course__play_round .nil pass0 (pa_cons pe_int pa_nil)) (pe_un un_neg pe_int) (fun _ _ => rfl)) rfl)
      (pss_cons (ps_fld (pv 0) (pe_ix (r := rIxL K) ix_list (pe_meth (pv 0) T.cl_Course T.m_Course__play_round (ok_Course__play_round T) (hr.mono (by decide)) T.b_Course__play_round .nil pass0 (pa_cons (pe_op op_add (pe_ix (r := rIxL K) ix_list (pe_fldK K rfl (pv 0) rfl) pe_int (fun _ _ => rfl)) (pe_ix (r := rIxT K) ix_tup (pv 2) pe_int (fun _ _ => rfl))) pa_nil)) (pe_un un_neg pe_int) (fun _ _ => rfl)) rfl)
      (pss_cons (ps_fld (pv 0) (pe_meth (pv 0) T.cl_Course T.m_Course__misses_in (ok_Course__misses_in T) (hr.mono (by decide)) T.b_Course__misses_in .nil pass0 (pa_cons pe_int pa_nil)) rfl)
      (pss_one (ps_fld (pv 0) (pe_meth (pv 0) T.cl_Course T.m_Course__misses_in (ok_Course__misses_in T) (hr.mono (by decide)) T.b_Course__misses_in .nil pass0 (pa_cons pe_int pa_nil)) rfl))))))))), ?_⟩
    -- _bakes, _demands, _keepable
    refine q_self hM kn0 (ev_var rfl) (fun _ _ => ev_var rfl) hx cl T.na_Course__bakes (by decide) fun S1 x1 g1 => ?_
    have w1 := g1.ex
    refine q_self hM g1.kn (ev_var rfl) (fun _ _ => ev_var rfl) x1 cl T.na_Course__demands (by show 1 < 1000; decide) fun S2 x2 g2 => ?_
    have w2 := g2.ex
    refine q_selfL hM g2.kn (el_call (vs := [.ref tb, .int life]) (ea_cons (ev_var rfl) (ea_cons (ev_var rfl) ea_nil)) (spl_keep (ex_t ((w1.trans w2).trans wn_ex) hbw) gd.n0 gd.n1 l0 l1)) (fun _ _ => ev_var rfl) x2 cl T.na_Course__keepable (by show 2 < 1000; decide) fun tk S3 hk3 x3 g3 => ?_
    have w3' := g3.ex
    have w3 := (w1.trans w2).trans w3'
    have m0 : CoM bs ds (keepL bs life) := ⟨gd, keepL_len, fun i => keepL_nn gd.b0⟩
    have sb : ∀ {S : Hp}, Ex (wn S (nx x N)) (wn S N) := wn_sub fun b z => .inr z
    have pr : ∀ {S : Hp} {fs : List (Str × V)}, Ex (wn S3 (nx x N)) (wn S (nx x N)) → S x = some (.ins Z.c_Course dx fs) → fs.lookup ("_bakes" : Str) = some (V.ref tb) → fs.lookup ("_demands" : Str) = some (V.ref td) → fs.lookup ("_keepable" : Str) = some (V.ref tk) → fs.lookup ("_play_round" : Str) = none → PR K Z (wn S N) x bs ds (keepL bs life) tb td tk :=
      fun e hx' l1 l2 l3 l4 => by
        have hx : wn _ N x = _ := (wn_ni nNx).trans hx'
        exact ⟨flk_of hx cl T.na_Course__bakes l1, ex_t sb (ex_t e (ex_t w3 hbw)), flk_of hx cl T.na_Course__demands l2, ex_t sb (ex_t e (ex_t w3 hdw)), flk_of hx cl T.na_Course__keepable l3, ex_l sb (ex_l e hk3), ⟨_, _, hx, l4⟩, gd, keepL_len⟩
    -- _gain
    refine q_self hM g3.kn (v := .int (gainOf bs ds)) (ev_maxi ev_c (ev_op (ev_sumT (ev_var rfl) (ex_t wn_ex (ex_t w3 hbw))) (ev_sumT (ev_var rfl) (ex_t wn_ex (ex_t w3 hdw))) rv_I0)) (fun _ _ => ev_var rfl) x3 cl T.na_Course__gain (by show 3 < 1000; decide) fun S4 x4 g4 => ?_
    have w4 := g4.ex
    have p4 := (pr w4 x4 rfl rfl rfl rfl).mono wn_ex
    -- _first_end
    have n1 : (stkL bs ds (keepL bs life) 0).length = bs.length + 1 := stkL_len
    refine q_self hM g4.kn (v := .int (firstOf bs ds (keepL bs life))) (ev_is (ev_ixNL (el_meth (ev_var rfl) p4.nf (ea_cons ev_c ea_nil) (spl_play (s := 0) p4)) (ev_un ev_c ru_neg) (atI_neg1 n1)) (by rw [stkL_get (Nat.le_refl _)]; rfl)) (fun _ _ => ev_var rfl) x4 cl T.na_Course__first_end (by show 4 < 1000; decide) fun S5 x5 g5 => ?_
    have w5 := g5.ex
    have p5 := (pr (w4.trans w5) x5 rfl rfl rfl rfl).mono wn_ex
    -- _full_end
    have n2 : (stkL bs ds (keepL bs life) ((keepL bs life).getD 0 0 + ds.getD 0 0)).length = bs.length + 1 := stkL_len
    have h0 := gd.n0
    have hld := gd.ld
    have fk5 := p5.fk
    refine q_self hM g5.kn (v := .int (fullOf bs ds (keepL bs life))) (ev_is (ev_ixNL (el_meth (ev_var rfl) p5.nf (ea_cons (ev_op (ev_ixL (by walk_at "ev") p5.hk ev_c (atI_mapI (i := 0) (by omega) (by rw [keepL_len]; omega))) (ev_ixT (ev_var rfl) p5.hd ev_c (atI_mapI (i := 0) (by omega) (by omega))) rv_I0) ea_nil) (spl_play p5)) (ev_un ev_c ru_neg) (atI_neg1 n2)) (by rw [stkL_get (Nat.le_refl _)]; rfl)) (fun _ _ => ev_var rfl) x5 cl T.na_Course__full_end (by show 5 < 1000; decide) fun S6 x6 g6 => ?_
    have w6 := g6.ex
    have w46 := (w4.trans w5).trans w6
    have gb := m0.gainb
    have sr : ∀ {S : Hp} {fs : List (Str × V)}, Ex (wn S6 (nx x N)) (wn S (nx x N)) → S x = some (.ins Z.c_Course dx fs) → fs.lookup ("_bakes" : Str) = some (V.ref tb) → fs.lookup ("_demands" : Str) = some (V.ref td) → fs.lookup ("_keepable" : Str) = some (V.ref tk) → fs.lookup ("_play_round" : Str) = none →
        fs.lookup ("_gain" : Str) = some (V.int (gainOf bs ds)) → fs.lookup ("_first_end" : Str) = some (V.int (firstOf bs ds (keepL bs life))) → fs.lookup ("_full_end" : Str) = some (V.int (fullOf bs ds (keepL bs life))) → fs.lookup ("_stocks_in" : Str) = none → SR K Z (wn S N) x bs ds (keepL bs life) tb td tk (gainOf bs ds) (firstOf bs ds (keepL bs life)) (fullOf bs ds (keepL bs life)) :=
      fun e hx' l1 l2 l3 l4 l5 l6 l7 l8 => by
        have hx : wn _ N x = _ := (wn_ni nNx).trans hx'
        exact ⟨pr (w46.trans e) hx' l1 l2 l3 l4, flk_of hx cl T.na_Course__gain l5, flk_of hx cl T.na_Course__first_end l6, flk_of hx cl T.na_Course__full_end l7, ⟨_, _, hx, l8⟩, by omega⟩
    have s6 := (sr (Ex.refl _) x6 rfl rfl rfl rfl rfl rfl rfl rfl).mono wn_ex
    refine q_selfL hM g6.kn (xs := (fmOf bs ds (keepL bs life)).map V.int) (el_meth (ev_var rfl) ⟨_, _, x6, rfl⟩ (ea_cons ev_c ea_nil) (spl_misses (r := 0) s6)) (fun _ _ => ev_var rfl) x6 cl T.na_Course__first_misses (by show 6 < 1000; decide) fun tf S7 hf7 x7 g7 => ?_
    have w7 := g7.ex
    have s7 := (sr w7 x7 rfl rfl rfl rfl rfl rfl rfl rfl).mono wn_ex
    refine s_selfL hM g7.kn (xs := (lmOf bs ds (keepL bs life)).map V.int) (el_meth (ev_var rfl) ⟨_, _, x7, rfl⟩ (ea_cons ev_c ea_nil) (spl_misses (r := 1) s7)) (fun _ _ => ev_var rfl) x7 cl T.na_Course__later_misses (by show 7 < 1000; decide) fun tl S8 hl8 x8 g8 => ?_
    have w8 := g8.ex
    have s8 := sr (w7.trans w8) x8 rfl rfl rfl rfl rfl rfl rfl rfl
    have ll : (lmOf bs ds (keepL bs life)).length = bs.length := by unfold lmOf; rw [missL_len]; exact hld
    have q1 := sum_small (xs := lmOf bs ds (keepL bs life)) (by rw [ll]; exact gd.n1) (m0.miss (r := 1) (by omega))
    have q2 := sum_small gd.n1 gd.b0
    have q3 := sum_small (by have := gd.n1; omega) gd.d0
    have y8 : wn S8 N x = _ := (wn_ni nNx).trans x8
    refine k S8 ⟨⟨tb, td, tk, s8⟩, ⟨tf, flk_of y8 cl T.na_Course__first_misses rfl, ex_l sb (ex_l w8 hf7)⟩, ⟨tl, flk_of y8 cl T.na_Course__later_misses rfl, ex_l sb hl8⟩, ?_, ll, ?_, by omega, by omega, ?_⟩ fun b o hbo hne => ?_
    · unfold fmOf; rw [missL_len]; exact hld
    · omega
    · intro m hm
      refine ⟨_, _, y8, ?_⟩
      simp only [List.mem_cons, List.not_mem_nil, or_false] at hm
      rcases hm with rfl | rfl | rfl | rfl | rfl | rfl | rfl | rfl <;> rfl
    · exact g8.al b o (g7.al b o (g6.al b o (g5.al b o (g4.al b o (g3.al b o (g2.al b o (g1.al b o hbo hne) hne) hne) hne) hne) hne) hne) hne
end Sw
namespace Sw
/-! ### the mathematics of the stock -/
section
variable {bs ds ks : List Int}
/-- what is gained in the first so many days of a round -/
def dlt (bs ds : List Int) : Nat → Int
  | 0 => 0
  | i + 1 => dlt bs ds i + (bs.getD i 0 - ds.getD i 0)
theorem clamp_step {lo hi z b d k : Int} (h0 : 0 ≤ lo) (h1 : lo ≤ hi) (hk : 0 ≤ k) :
    stp (min hi (max lo z)) b d k = min (stp hi b d k) (max (stp lo b d k) (z + (b - d))) := by
  unfold stp; omega
theorem clamp (h : CoM bs ds ks) (i : Nat) (hi : 0 < i) : ∃ lo hi : Int, 0 ≤ lo ∧ lo ≤ hi ∧ (∀ x, stkAt bs ds ks x i = min hi (max lo (x + dlt bs ds i))) ∧ stkAt bs ds ks (ks.getD 0 0 + ds.getD 0 0) i = hi := by
  induction i with
  | zero => omega
  | succ i ih =>
    have hk := h.kn i
    by_cases hi0 : i = 0
    · subst hi0
      have hb := (getD_mem0 (i := 0) h.gd.b0).1
      refine ⟨0, ks.getD 0 0, Int.le_refl _, hk, fun x => ?_, ?_⟩
      · show stp x _ _ _ = _
        unfold stp dlt dlt
        omega
      · show stp _ _ _ _ = _
        unfold stp
        simp only [stkAt]
        omega
    · obtain ⟨lo, hi', a, b, c, d⟩ := ih (by omega)
      refine ⟨stp lo (bs.getD i 0) (ds.getD i 0) (ks.getD i 0), stp hi' (bs.getD i 0) (ds.getD i 0) (ks.getD i 0), stp_nn hk, by unfold stp; omega, fun x => ?_, ?_⟩
      · show stp (stkAt bs ds ks x i) _ _ _ = _
        rw [c x, clamp_step a b hk]
        have e : x + dlt bs ds i + (bs.getD i 0 - ds.getD i 0) = x + dlt bs ds (i + 1) := by
          show _ = x + (dlt bs ds i + _); omega
        rw [e]
      · show stp (stkAt bs ds ks _ i) _ _ _ = _
        rw [d]
theorem sum_take_succ (xs : List Int) (i : Nat) : (xs.take (i + 1)).sum = (xs.take i).sum + xs.getD i 0 := by
  induction xs generalizing i with
  | nil => simp
  | cons a r ih =>
    cases i with
    | zero => simp
    | succ i =>
      have z := ih i
      simp only [List.take_succ_cons, List.sum_cons, List.getD_cons_succ]
      omega
theorem dlt_sum (i : Nat) : dlt bs ds i = (bs.take i).sum - (ds.take i).sum := by
  induction i with
  | zero => simp [dlt]
  | succ i ih => rw [sum_take_succ, sum_take_succ, dlt, ih]; omega
/-- a round: from the stock at its beginning to the one at its end -/
theorem round_clamp (h : CoM bs ds ks) : ∃ lo : Int, 0 ≤ lo ∧ lo ≤ fullOf bs ds ks ∧ ∀ x, stkAt bs ds ks x bs.length = min (fullOf bs ds ks) (max lo (x + (bs.sum - ds.sum))) := by
  obtain ⟨lo, hi, a, b, c, d⟩ := clamp h bs.length h.gd.n0
  have e : fullOf bs ds ks = hi := d
  have q : dlt bs ds bs.length = bs.sum - ds.sum := by
    rw [dlt_sum, List.take_length, ← h.gd.ld, List.take_length]
  rw [e]
  exact ⟨lo, a, b, fun x => by rw [c x, q]⟩
abbrev st (bs ds ks : List Int) (r : Int) : Int := start1 (gainOf bs ds) (firstOf bs ds ks) (fullOf bs ds ks) r
theorem st_zero : st bs ds ks 0 = 0 := by unfold st start1; rw [if_pos rfl]
theorem st_pos {r : Int} (h : r ≠ 0) : st bs ds ks r = min (fullOf bs ds ks) (firstOf bs ds ks + (r - 1) * gainOf bs ds) := by unfold st start1; rw [if_neg h]
theorem st_step (h : CoM bs ds ks) {r : Int} (hr : 0 ≤ r) : st bs ds ks (r + 1) = stkAt bs ds ks (st bs ds ks r) bs.length := by
  obtain ⟨lo, a, b, c⟩ := round_clamp h
  have hf : firstOf bs ds ks = min (fullOf bs ds ks) (max lo (0 + (bs.sum - ds.sum))) := c 0
  rw [st_pos (by omega)]
  by_cases h0 : r = 0
  · subst h0
    rw [st_zero]
    show _ = firstOf bs ds ks
    have e : ((0 : Int) + 1 - 1) * gainOf bs ds = 0 := by simp
    rw [e]; omega
  · rw [st_pos h0, c]
    have e : (r + 1 - 1) * gainOf bs ds = (r - 1) * gainOf bs ds + gainOf bs ds := by
      have : r + 1 - 1 = (r - 1) + 1 := by omega
      rw [this, Int.add_mul, Int.one_mul]
    rw [e]
    have hg : gainOf bs ds = max 0 (bs.sum - ds.sum) := rfl
    have hp : 0 ≤ (r - 1) * gainOf bs ds := Int.mul_nonneg (by omega) (by omega)
    by_cases hd : bs.sum - ds.sum ≤ 0
    · have g0 : gainOf bs ds = 0 := by omega
      rw [g0, Int.mul_zero]
      omega
    · generalize (r - 1) * gainOf bs ds = t at hp
      omega
/-- the days one by one -/
def dayS (bs ds ks : List Int) : Nat → Int
  | 0 => 0
  | t + 1 => stp (dayS bs ds ks t) (bs.getD (t % bs.length) 0) (ds.getD (t % bs.length) 0) (ks.getD (t % bs.length) 0)
theorem dayS_round (h : CoM bs ds ks) (r : Nat) : ∀ i, i ≤ bs.length → dayS bs ds ks (r * bs.length + i) = stkAt bs ds ks (st bs ds ks (r : Int)) i := by
  have hn := h.gd.n0
  induction r with
  | zero =>
    intro i hi
    rw [show ((0 : Nat) : Int) = 0 from rfl, st_zero]
    induction i with
    | zero => simp [dayS, stkAt]
    | succ i ih =>
      have e : (0 * bs.length + i) % bs.length = i := by rw [Nat.zero_mul, Nat.zero_add, Nat.mod_eq_of_lt (by omega)]
      rw [show 0 * bs.length + (i + 1) = (0 * bs.length + i) + 1 by omega]
      show stp (dayS bs ds ks (0 * bs.length + i)) _ _ _ = stp (stkAt bs ds ks 0 i) _ _ _
      rw [e, ih (by omega)]
  | succ r ihr =>
    intro i hi
    induction i with
    | zero =>
      have z := ihr bs.length (Nat.le_refl _)
      rw [← st_step h (by omega)] at z
      rw [show (r + 1) * bs.length + 0 = r * bs.length + bs.length by rw [Nat.add_mul, Nat.one_mul]; omega, z]
      show st bs ds ks ((r : Int) + 1) = st bs ds ks (((r + 1 : Nat)) : Int)
      congr 1
    | succ i ih =>
      have e : ((r + 1) * bs.length + i) % bs.length = i := by rw [Nat.mul_comm, Nat.mul_add_mod, Nat.mod_eq_of_lt (by omega)]
      rw [show (r + 1) * bs.length + (i + 1) = ((r + 1) * bs.length + i) + 1 by omega]
      show stp (dayS bs ds ks ((r + 1) * bs.length + i)) _ _ _ = stp (stkAt bs ds ks _ i) _ _ _
      rw [e, ih (by omega)]
theorem day_split (t n : Nat) (hn : 0 < n) : ((t : Int) / (n : Int)) = ((t / n : Nat) : Int) ∧ ((t : Int) % (n : Int)).toNat = t % n := by
  constructor
  · exact (Int.natCast_ediv t n).symm
  · have := Int.natCast_emod t n; omega
theorem stock_is (h : CoM bs ds ks) (t : Nat) : stockI bs ds ks (gainOf bs ds) (firstOf bs ds ks) (fullOf bs ds ks) (t : Int) = dayS bs ds ks t := by
  have hn := h.gd.n0
  obtain ⟨e1, e2⟩ := day_split t bs.length hn
  unfold stockI
  rw [e1, e2]
  have z := dayS_round h (t / bs.length) (t % bs.length) (Nat.le_of_lt (Nat.mod_lt _ hn))
  rw [show t / bs.length * bs.length + t % bs.length = t by rw [Nat.mul_comm]; exact Nat.div_add_mod _ _] at z
  exact z.symm
theorem end_is (h : CoM bs ds ks) (t : Nat) : endI bs ds ks (gainOf bs ds) (firstOf bs ds ks) (fullOf bs ds ks) (t : Int) = dayS bs ds ks (t + 1) := by
  have hn := h.gd.n0
  obtain ⟨e1, e2⟩ := day_split t bs.length hn
  unfold endI
  rw [e1, e2]
  have z := dayS_round h (t / bs.length) (t % bs.length + 1) (Nat.mod_lt _ hn)
  rw [show t / bs.length * bs.length + (t % bs.length + 1) = t + 1 by have := Nat.div_add_mod t bs.length; rw [Nat.mul_comm]; omega] at z
  exact z.symm
theorem dayS_nn (h : CoM bs ds ks) (t : Nat) : 0 ≤ dayS bs ds ks t := by
  cases t with
  | zero => exact Int.le_refl _
  | succ t => exact stp_nn (h.kn _)
/-- the stock is never less than a round before -/
theorem dayS_le (h : CoM bs ds ks) (t : Nat) : dayS bs ds ks t ≤ dayS bs ds ks (t + bs.length) := by
  induction t with
  | zero => exact dayS_nn h _
  | succ t ih =>
    rw [show t + 1 + bs.length = (t + bs.length) + 1 by omega]
    show stp _ _ _ _ ≤ stp _ _ _ _
    rw [Nat.add_mod_right]
    unfold stp; omega
theorem dayS_same {t : Nat} (e : dayS bs ds ks t = dayS bs ds ks (t + bs.length)) (u : Nat) : dayS bs ds ks (t + u) = dayS bs ds ks (t + u + bs.length) := by
  induction u with
  | zero => exact e
  | succ u ih =>
    rw [show t + (u + 1) + bs.length = (t + u + bs.length) + 1 by omega, show t + (u + 1) = (t + u) + 1 by omega]
    show stp _ _ _ _ = stp _ _ _ _
    rw [Nat.add_mod_right, ih]
/-! ### the settled day -/
theorem least {p : Nat → Prop} : ∀ n, p n → ∃ m, m ≤ n ∧ p m ∧ ∀ j, j < m → ¬ p j := by
  intro n
  induction n using Nat.strongRecOn with
  | ind n ih =>
    intro hp
    by_cases q : ∃ j, j < n ∧ p j
    · obtain ⟨j, hj, hpj⟩ := q
      obtain ⟨m, a, b, c⟩ := ih j hj hpj
      exact ⟨m, by omega, b, c⟩
    · exact ⟨n, Nat.le_refl _, hp, fun j hj hpj => q ⟨j, hj, hpj⟩⟩
abbrev grw (bs ds ks : List Int) : Int := growing (gainOf bs ds) (firstOf bs ds ks) (fullOf bs ds ks)
theorem first_le (h : CoM bs ds ks) : firstOf bs ds ks ≤ fullOf bs ds ks := by
  obtain ⟨lo, a, b, c⟩ := round_clamp h
  have hf : firstOf bs ds ks = min (fullOf bs ds ks) (max lo (0 + (bs.sum - ds.sum))) := c 0
  omega
/-- how the growing rounds are counted -/
theorem grw_props (h : CoM bs ds ks) : 0 ≤ grw bs ds ks ∧ fullOf bs ds ks ≤ firstOf bs ds ks + grw bs ds ks * gainOf bs ds ∨ gainOf bs ds = 0 ∧ grw bs ds ks = 0 := by
  have hg := h.gainb.1
  have hl := first_le h
  by_cases g0 : gainOf bs ds = 0
  · exact .inr ⟨g0, by unfold grw growing; rw [if_pos g0]⟩
  · left
    have gp : 0 < gainOf bs ds := by omega
    unfold grw growing
    rw [if_neg g0]
    have e := Int.ediv_mul_le (firstOf bs ds ks - fullOf bs ds ks) g0
    have q : (firstOf bs ds ks - fullOf bs ds ks) / gainOf bs ds ≤ 0 := by
      have := Int.ediv_le_ediv gp (show firstOf bs ds ks - fullOf bs ds ks ≤ 0 by omega)
      simpa using this
    rw [Int.neg_mul]
    omega
theorem grw_nn (h : CoM bs ds ks) : 0 ≤ grw bs ds ks := by
  rcases grw_props h with z | z <;> omega
theorem grw_end (h : CoM bs ds ks) : st bs ds ks (grw bs ds ks + 1) = st bs ds ks (grw bs ds ks + 2) := by
  have hn := grw_nn h
  rw [st_pos (by omega), st_pos (by omega)]
  rw [show grw bs ds ks + 1 - 1 = grw bs ds ks by omega, show grw bs ds ks + 2 - 1 = grw bs ds ks + 1 by omega, Int.add_mul, Int.one_mul]
  have hg := h.gainb.1
  rcases grw_props h with z | z
  · generalize grw bs ds ks * gainOf bs ds = t at z ⊢
    omega
  · rw [z.1]; simp
theorem set_ex (h : CoM bs ds ks) : ∃ i, SetAt bs ds ks (gainOf bs ds) (firstOf bs ds ks) (fullOf bs ds ks) i := by
  have hn := grw_nn h
  have e : stkAt bs ds ks (st bs ds ks (grw bs ds ks)) bs.length = stkAt bs ds ks (st bs ds ks (grw bs ds ks + 1)) bs.length := by
    rw [← st_step h hn, ← st_step h (by omega)]
    rw [show grw bs ds ks + 1 + 1 = grw bs ds ks + 2 by omega]
    exact grw_end h
  obtain ⟨m, a, b, c⟩ := least (p := fun i => stkAt bs ds ks (st bs ds ks (grw bs ds ks)) i = stkAt bs ds ks (st bs ds ks (grw bs ds ks + 1)) i) bs.length e
  exact ⟨m, a, b, c⟩
end
end Sw
namespace Sw
section
variable {bs ds ks : List Int}
/-! ### from the settled day on -/
theorem settled_same (h : CoM bs ds ks) {i : Nat} (hi : SetAt bs ds ks (gainOf bs ds) (firstOf bs ds ks) (fullOf bs ds ks) i) {t : Nat} (ht : grw bs ds ks * (bs.length : Int) + (i : Int) ≤ (t : Int)) :
    dayS bs ds ks t = dayS bs ds ks (t + bs.length) := by
  have hn := grw_nn h
  obtain ⟨R, hR⟩ : ∃ R : Nat, grw bs ds ks = (R : Int) := ⟨(grw bs ds ks).toNat, by omega⟩
  obtain ⟨a, b, c⟩ := hi
  change stkAt bs ds ks (st bs ds ks (grw bs ds ks)) i = stkAt bs ds ks (st bs ds ks (grw bs ds ks + 1)) i at b
  rw [hR] at b ht
  rw [← dayS_round h R i a, show ((R : Int) + 1) = ((R + 1 : Nat) : Int) by omega, ← dayS_round h (R + 1) i a, show (R + 1) * bs.length + i = R * bs.length + i + bs.length by rw [Nat.add_mul, Nat.one_mul]; omega] at b
  have e : (R : Int) * (bs.length : Int) = ((R * bs.length : Nat) : Int) := by rw [Int.natCast_mul]
  rw [e] at ht
  obtain ⟨u, rfl⟩ : ∃ u, t = R * bs.length + i + u := ⟨t - (R * bs.length + i), by omega⟩
  exact dayS_same b u
theorem settled_least (h : CoM bs ds ks) {i : Nat} (hi : SetAt bs ds ks (gainOf bs ds) (firstOf bs ds ks) (fullOf bs ds ks) i) {t : Nat} (ht : grw bs ds ks * (bs.length : Int) + (i : Int) = (t : Int) + 1) :
    dayS bs ds ks t ≠ dayS bs ds ks (t + bs.length) := by
  have hn := grw_nn h
  obtain ⟨R, hR⟩ : ∃ R : Nat, grw bs ds ks = (R : Int) := ⟨(grw bs ds ks).toNat, by omega⟩
  obtain ⟨a, b, c⟩ := hi
  change stkAt bs ds ks (st bs ds ks (grw bs ds ks)) i = stkAt bs ds ks (st bs ds ks (grw bs ds ks + 1)) i at b
  have e : (R : Int) * (bs.length : Int) = ((R * bs.length : Nat) : Int) := by rw [Int.natCast_mul]
  rw [hR, e] at ht
  cases i with
  | succ i =>
    have q := c i (Nat.lt_succ_self i)
    change stkAt bs ds ks (st bs ds ks (grw bs ds ks)) i ≠ stkAt bs ds ks (st bs ds ks (grw bs ds ks + 1)) i at q
    rw [hR, ← dayS_round h R i (by omega), show ((R : Int) + 1) = ((R + 1 : Nat) : Int) by omega, ← dayS_round h (R + 1) i (by omega), show (R + 1) * bs.length + i = R * bs.length + i + bs.length by rw [Nat.add_mul, Nat.one_mul]; omega] at q
    rwa [show t = R * bs.length + i by omega]
  | zero =>
    exfalso
    have b' : st bs ds ks (grw bs ds ks) = st bs ds ks (grw bs ds ks + 1) := b
    have hg := h.gainb.1
    have hl := first_le h
    have hR0 : R ≠ 0 := by
      intro z; subst z
      simp at ht; omega
    have g0 : ¬ gainOf bs ds = 0 := by
      intro z
      have : grw bs ds ks = 0 := by unfold grw growing; rw [if_pos z]
      omega
    have gp : 0 < gainOf bs ds := by omega
    rw [st_pos (by omega), st_pos (by omega), show grw bs ds ks + 1 - 1 = grw bs ds ks by omega, Int.sub_mul, Int.one_mul] at b'
    have ee : grw bs ds ks = -((firstOf bs ds ks - fullOf bs ds ks) / gainOf bs ds) := by unfold grw growing; rw [if_neg g0]
    have q1 := Int.lt_ediv_add_one_mul_self (firstOf bs ds ks - fullOf bs ds ks) gp
    have q2 : grw bs ds ks * gainOf bs ds = -((firstOf bs ds ks - fullOf bs ds ks) / gainOf bs ds * gainOf bs ds) := by rw [ee, Int.neg_mul]
    rw [Int.add_mul, Int.one_mul] at q1
    rcases grw_props h with z | z
    · generalize grw bs ds ks * gainOf bs ds = t1 at *
      generalize (firstOf bs ds ks - fullOf bs ds ks) / gainOf bs ds * gainOf bs ds = t2 at *
      omega
    · omega
/-! ### sums over days -/
def psum (f : Nat → Int) : Nat → Int
  | 0 => 0
  | t + 1 => psum f t + f t
theorem psum_add (f : Nat → Int) (a b : Nat) : psum f (a + b) = psum f a + psum (fun j => f (a + j)) b := by
  induction b with
  | zero => simp [psum]
  | succ b ih =>
    show psum f (a + b) + f (a + b) = _
    rw [ih]
    show _ = psum f a + (psum (fun j => f (a + j)) b + f (a + b))
    omega
theorem psum_congr {f g : Nat → Int} {n : Nat} (h : ∀ j, j < n → f j = g j) : psum f n = psum g n := by
  induction n with
  | zero => rfl
  | succ n ih =>
    show psum f n + f n = psum g n + g n
    rw [ih fun j hj => h j (by omega), h n (by omega)]
theorem psum_zero (n : Nat) : psum (fun _ => 0) n = 0 := by
  induction n with
  | zero => rfl
  | succ n ih => show psum _ n + 0 = 0; rw [ih]; rfl
theorem psum_sub (f g : Nat → Int) (n : Nat) : psum (fun j => f j - g j) n = psum f n - psum g n := by
  induction n with
  | zero => simp [psum]
  | succ n ih => show psum _ n + (f n - g n) = psum f n + f n - (psum g n + g n); rw [ih]; omega
theorem psum_take (xs : List Int) : ∀ n, (xs.take n).sum = psum (fun j => xs.getD j 0) n := by
  intro n
  induction n with
  | zero => simp [psum]
  | succ n ih => rw [sum_take_succ, ih]; rfl
theorem psum_sum (xs : List Int) : psum (fun j => xs.getD j 0) xs.length = xs.sum := by rw [← psum_take, List.take_length]
/-- a function that repeats after n, summed up over windows of n -/
theorem window {f : Nat → Int} {n a : Nat} (hf : ∀ t, a ≤ t → f (t + n) = f t) (u : Nat) : psum (fun j => f (a + u + j)) n = psum (fun j => f (a + j)) n := by
  induction u with
  | zero => rfl
  | succ u ih =>
    have e1 := psum_add (fun j => f (a + u + j)) 1 n
    have e2 := psum_add (fun j => f (a + u + j)) n 1
    rw [Nat.add_comm 1 n] at e1
    have e3 : psum (fun j => f (a + u + j)) 1 = f (a + u) := by show 0 + f (a + u + 0) = _; simp
    have e4 : psum (fun j => f (a + u + (n + j))) 1 = f (a + u + n) := by show 0 + f (a + u + (n + 0)) = _; simp
    have e5 : psum (fun j => f (a + u + (1 + j))) n = psum (fun j => f (a + (u + 1) + j)) n := psum_congr fun j _ => by congr 1; omega
    have e6 := hf (a + u) (by omega)
    rw [e3, e5] at e1
    rw [e4] at e2
    omega
theorem rounds_psum {f : Nat → Int} {n a : Nat} (hf : ∀ t, a ≤ t → f (t + n) = f t) (T : Nat) : psum f (a + T * n) = psum f a + (T : Int) * psum (fun j => f (a + j)) n := by
  induction T with
  | zero => simp
  | succ T ih =>
    rw [show a + (T + 1) * n = (a + T * n) + n by rw [Nat.add_mul, Nat.one_mul]; omega, psum_add, ih]
    have := window hf (T * n)
    rw [this]
    have : ((T + 1 : Nat) : Int) = (T : Int) + 1 := by omega
    rw [this, Int.add_mul, Int.one_mul]
    omega
theorem sumRep_psum (am : List Int) (h : 0 < am.length) (m : Nat) : sumRep am (m : Int) = psum (fun j => am.getD (j % am.length) 0) m := by
  obtain ⟨e1, e2⟩ := day_split m am.length h
  unfold sumRep
  rw [e1, e2]
  have hp : ∀ t, 0 ≤ t → (fun j => am.getD (j % am.length) 0) (t + am.length) = (fun j => am.getD (j % am.length) 0) t := fun t _ => by simp [Nat.add_mod_right]
  have z := rounds_psum (f := fun j => am.getD (j % am.length) 0) (n := am.length) (a := 0) hp (m / am.length)
  have e : m = (0 + m / am.length * am.length) + m % am.length := by have := Nat.div_add_mod m am.length; rw [Nat.mul_comm] at this; omega
  have w : psum (fun j => am.getD (j % am.length) 0) m = psum (fun j => am.getD (j % am.length) 0) (0 + m / am.length * am.length) + psum (fun j => (fun j => am.getD (j % am.length) 0) (0 + m / am.length * am.length + j)) (m % am.length) := by
    rw [← psum_add, ← e]
  rw [w, z]
  have q1 : psum (fun j => (fun j => am.getD (j % am.length) 0) (0 + j)) am.length = am.sum := by
    rw [← psum_sum]
    exact psum_congr fun j hj => by simp [Nat.mod_eq_of_lt hj]
  have q2 : psum (fun j => (fun j => am.getD (j % am.length) 0) (0 + m / am.length * am.length + j)) (m % am.length) = (am.take (m % am.length)).sum := by
    rw [psum_take]
    refine psum_congr fun j hj => ?_
    have hlt := Nat.mod_lt m h
    show am.getD ((0 + m / am.length * am.length + j) % am.length) 0 = _
    rw [Nat.zero_add, Nat.mul_comm, Nat.mul_add_mod, Nat.mod_eq_of_lt (by omega)]
  rw [q1, q2]
  show _ = 0 + _ + _
  omega
/-! ### a day's sales -/
def bk (bs : List Int) (t : Nat) : Int := bs.getD (t % bs.length) 0
def dm (bs ds : List Int) (t : Nat) : Int := ds.getD (t % bs.length) 0
def misS (bs ds ks : List Int) (t : Nat) : Int := max 0 (dm bs ds t - dayS bs ds ks t - bk bs t)
def solS (bs ds ks : List Int) (t : Nat) : Int := dm bs ds t - misS bs ds ks t
def thrS (bs ds ks : List Int) (t : Nat) : Int := bk bs t - solS bs ds ks t - (dayS bs ds ks (t + 1) - dayS bs ds ks t)
theorem sales_is (h : CoM bs ds ks) (t : Nat) : salesI bs ds ks (gainOf bs ds) (firstOf bs ds ks) (fullOf bs ds ks) (t : Int) = [solS bs ds ks t, misS bs ds ks t, thrS bs ds ks t] := by
  have hn := h.gd.n0
  obtain ⟨e1, e2⟩ := day_split t bs.length hn
  have es : soldI bs ds ks (gainOf bs ds) (firstOf bs ds ks) (fullOf bs ds ks) (t : Int) = solS bs ds ks t := by
    unfold soldI
    rw [stock_is h, e2]
    unfold solS misS dm bk
    omega
  unfold salesI
  rw [es, stock_is h, end_is h, e2]
  unfold thrS
  congr 1
  congr 1
  · unfold solS dm; omega
  · congr 1
    unfold bk
    omega
theorem misS_le (h : CoM bs ds ks) (t : Nat) : misS bs ds ks (t + bs.length) ≤ misS bs ds ks t := by
  have z := dayS_le h t
  unfold misS dm bk
  rw [Nat.add_mod_right]
  omega
/-- behind the first round each round misses the same -/
theorem misS_round (h : CoM bs ds ks) {t : Nat} (ht : bs.length ≤ t) : misS bs ds ks (t + bs.length) = misS bs ds ks t := by
  have z := misS_le h t
  have m0 : 0 ≤ misS bs ds ks (t + bs.length) := by unfold misS; omega
  by_cases hm : misS bs ds ks t ≤ 0
  · omega
  · obtain ⟨u, rfl⟩ : ∃ u, t = u + bs.length := ⟨t - bs.length, by omega⟩
    have e1 : dayS bs ds ks (u + bs.length + 1) = 0 := by
      show stp _ _ _ _ = 0
      have := h.kn ((u + bs.length) % bs.length)
      unfold misS dm bk at hm
      unfold stp
      omega
    have e2 := dayS_le h (u + 1)
    have e3 := dayS_nn h (u + 1)
    rw [show u + 1 + bs.length = u + bs.length + 1 by omega, e1] at e2
    have e4 : dayS bs ds ks (u + 1) = dayS bs ds ks (u + 1 + bs.length) := by rw [show u + 1 + bs.length = u + bs.length + 1 by omega, e1]; omega
    have hn := h.gd.n0
    have e5 := dayS_same e4 (bs.length - 1)
    rw [show u + 1 + (bs.length - 1) = u + bs.length by omega] at e5
    unfold misS dm bk
    rw [Nat.add_mod_right, ← e5]
theorem fm_get (h : CoM bs ds ks) {j : Nat} (hj : j < bs.length) : (fmOf bs ds ks).getD j 0 = misS bs ds ks j := by
  unfold fmOf missL
  have hl := h.gd.ld
  have e : ((List.range ds.length).map fun i => max 0 (ds.getD i 0 - (stkL bs ds ks (start1 (gainOf bs ds) (firstOf bs ds ks) (fullOf bs ds ks) 0)).getD i 0 - bs.getD i 0)).getD j 0 =
      max 0 (ds.getD j 0 - (stkL bs ds ks (start1 (gainOf bs ds) (firstOf bs ds ks) (fullOf bs ds ks) 0)).getD j 0 - bs.getD j 0) := by
    simp [List.getD, List.getElem?_range (show j < ds.length by omega)]
  rw [e, stkL_get (by omega)]
  have q := dayS_round h 0 j (by omega)
  rw [Nat.zero_mul, Nat.zero_add] at q
  have q' : stkAt bs ds ks (start1 (gainOf bs ds) (firstOf bs ds ks) (fullOf bs ds ks) 0) j = dayS bs ds ks j := q.symm
  rw [q']
  unfold misS dm bk
  rw [Nat.mod_eq_of_lt hj]
theorem lm_get (h : CoM bs ds ks) {j : Nat} (hj : j < bs.length) : (lmOf bs ds ks).getD j 0 = misS bs ds ks (bs.length + j) := by
  unfold lmOf missL
  have hl := h.gd.ld
  have e : ((List.range ds.length).map fun i => max 0 (ds.getD i 0 - (stkL bs ds ks (start1 (gainOf bs ds) (firstOf bs ds ks) (fullOf bs ds ks) 1)).getD i 0 - bs.getD i 0)).getD j 0 =
      max 0 (ds.getD j 0 - (stkL bs ds ks (start1 (gainOf bs ds) (firstOf bs ds ks) (fullOf bs ds ks) 1)).getD j 0 - bs.getD j 0) := by
    simp [List.getD, List.getElem?_range (show j < ds.length by omega)]
  rw [e, stkL_get (by omega)]
  have q := dayS_round h 1 j (by omega)
  rw [Nat.one_mul] at q
  have q' : stkAt bs ds ks (start1 (gainOf bs ds) (firstOf bs ds ks) (fullOf bs ds ks) 1) j = dayS bs ds ks (bs.length + j) := q.symm
  rw [q']
  unfold misS dm bk
  rw [Nat.add_mod_left, Nat.mod_eq_of_lt hj]
theorem fm_len (h : CoM bs ds ks) : (fmOf bs ds ks).length = bs.length := by unfold fmOf; rw [missL_len]; exact h.gd.ld
theorem lm_len (h : CoM bs ds ks) : (lmOf bs ds ks).length = bs.length := by unfold lmOf; rw [missL_len]; exact h.gd.ld
theorem lm_sum (h : CoM bs ds ks) : (lmOf bs ds ks).sum = psum (fun j => misS bs ds ks (bs.length + j)) bs.length := by
  rw [← psum_sum, lm_len h]
  exact psum_congr fun j hj => lm_get h hj
theorem missed_is (h : CoM bs ds ks) (t : Nat) : missedI bs (fmOf bs ds ks) (lmOf bs ds ks) (t : Int) = psum (misS bs ds ks) t := by
  have hn := h.gd.n0
  unfold missedI
  rw [Int.toNat_natCast, psum_take]
  by_cases ht : t ≤ bs.length
  · have e : max 0 ((t : Int) - (bs.length : Int)) = ((0 : Nat) : Int) := by omega
    rw [e, sumRep_psum _ (by rw [lm_len h]; exact hn)]
    show _ + 0 = _
    rw [Int.add_zero]
    exact psum_congr fun j hj => fm_get h (by omega)
  · obtain ⟨u, rfl⟩ : ∃ u, t = bs.length + u := ⟨t - bs.length, by omega⟩
    have e : max 0 (((bs.length + u : Nat) : Int) - (bs.length : Int)) = (u : Int) := by omega
    rw [e, sumRep_psum _ (by rw [lm_len h]; exact hn), psum_add, psum_add]
    have z1 : psum (fun j => (fmOf bs ds ks).getD j 0) bs.length = psum (misS bs ds ks) bs.length := psum_congr fun j hj => fm_get h hj
    have z2 : psum (fun j => (fmOf bs ds ks).getD (bs.length + j) 0) u = 0 := by
      have : psum (fun j => (fmOf bs ds ks).getD (bs.length + j) 0) u = psum (fun _ => 0) u := psum_congr fun j _ => by
        simp [List.getD, List.getElem?_eq_none (show (fmOf bs ds ks).length ≤ bs.length + j by rw [fm_len h]; omega)]
      rw [this, psum_zero]
    have z3 : psum (fun j => (lmOf bs ds ks).getD (j % (lmOf bs ds ks).length) 0) u = psum (fun j => misS bs ds ks (bs.length + j)) u := by
      refine psum_congr fun j _ => ?_
      rw [lm_len h, lm_get h (Nat.mod_lt _ hn)]
      have q : ∀ k r, misS bs ds ks (bs.length + (r + k * bs.length)) = misS bs ds ks (bs.length + r) := by
        intro k r
        induction k with
        | zero => simp
        | succ k ih =>
          rw [show bs.length + (r + (k + 1) * bs.length) = bs.length + (r + k * bs.length) + bs.length by rw [Nat.add_mul, Nat.one_mul]; omega, misS_round h (by omega), ih]
      have w := q (j / bs.length) (j % bs.length)
      rw [show j % bs.length + j / bs.length * bs.length = j by rw [Nat.mul_comm]; exact Nat.mod_add_div _ _] at w
      exact w.symm
    rw [z1, z2, z3]; omega
theorem bk_sum (h : CoM bs ds ks) (t : Nat) : sumRep bs (t : Int) = psum (bk bs) t := sumRep_psum bs h.gd.n0 t
theorem dm_sum (h : CoM bs ds ks) (t : Nat) : sumRep ds (t : Int) = psum (dm bs ds) t := by
  rw [sumRep_psum ds (by have := h.gd.n0; have := h.gd.ld; omega) t]
  exact psum_congr fun j _ => by unfold dm; rw [h.gd.ld]
theorem thr_sum (t : Nat) : psum (thrS bs ds ks) t = psum (bk bs) t - psum (solS bs ds ks) t - dayS bs ds ks t := by
  induction t with
  | zero => simp [psum, dayS]
  | succ t ih => show psum _ t + thrS bs ds ks t = (psum _ t + bk bs t) - (psum _ t + solS bs ds ks t) - _; rw [ih]; unfold thrS; omega
/-- totals are the sums of the days -/
theorem tot_is (h : CoM bs ds ks) (t : Nat) : totI bs ds ks (gainOf bs ds) (firstOf bs ds ks) (fullOf bs ds ks) (fmOf bs ds ks) (lmOf bs ds ks) (t : Int) =
    [psum (solS bs ds ks) t, psum (misS bs ds ks) t, psum (thrS bs ds ks) t] := by
  have e : psum (solS bs ds ks) t = psum (dm bs ds) t - psum (misS bs ds ks) t := psum_sub _ _ _
  unfold totI
  rw [missed_is h, dm_sum h, bk_sum h, stock_is h, thr_sum, e]
/-! ### the long run -/
theorem long_is (h : CoM bs ds ks) {D : Nat} (hD : ∀ t, D ≤ t → dayS bs ds ks t = dayS bs ds ks (t + bs.length)) :
    longI bs ds (lmOf bs ds ks) = [psum (fun j => solS bs ds ks (D + j)) bs.length, psum (fun j => misS bs ds ks (D + j)) bs.length, psum (fun j => thrS bs ds ks (D + j)) bs.length] := by
  have hmD : ∀ t, D ≤ t → misS bs ds ks (t + bs.length) = misS bs ds ks t := fun t ht => by
    unfold misS dm bk; rw [Nat.add_mod_right, ← hD t ht]
  have hmN : ∀ t, bs.length ≤ t → misS bs ds ks (t + bs.length) = misS bs ds ks t := fun t ht => misS_round h ht
  have m1 := window hmD bs.length
  have m2 := window hmN D
  rw [Nat.add_comm D] at m1
  have em : psum (fun j => misS bs ds ks (D + j)) bs.length = (lmOf bs ds ks).sum := by rw [lm_sum h, ← m1, ← m2]
  have hb : ∀ t, 0 ≤ t → bk bs (t + bs.length) = bk bs t := fun t _ => by unfold bk; rw [Nat.add_mod_right]
  have hd : ∀ t, 0 ≤ t → dm bs ds (t + bs.length) = dm bs ds t := fun t _ => by unfold dm; rw [Nat.add_mod_right]
  have b1 := window (n := bs.length) (a := 0) hb D
  have d1 := window (n := bs.length) (a := 0) hd D
  simp only [Nat.zero_add] at b1 d1
  have b2 : psum (fun j => bk bs j) bs.length = bs.sum := by rw [← psum_sum]; exact psum_congr fun j hj => by unfold bk; rw [Nat.mod_eq_of_lt hj]
  have d2 : psum (fun j => dm bs ds j) bs.length = ds.sum := by
    rw [← psum_sum, h.gd.ld]; exact psum_congr fun j hj => by unfold dm; rw [Nat.mod_eq_of_lt hj]
  have es : psum (fun j => solS bs ds ks (D + j)) bs.length = ds.sum - (lmOf bs ds ks).sum := by
    have : psum (fun j => solS bs ds ks (D + j)) bs.length = psum (fun j => dm bs ds (D + j)) bs.length - psum (fun j => misS bs ds ks (D + j)) bs.length := psum_sub _ _ _
    rw [this, em, d1, d2]
  have et : psum (fun j => thrS bs ds ks (D + j)) bs.length = bs.sum - (ds.sum - (lmOf bs ds ks).sum) := by
    have t1 := psum_add (thrS bs ds ks) D bs.length
    rw [thr_sum, thr_sum, psum_add, psum_add] at t1
    rw [← hD D (Nat.le_refl _), es, b1, b2] at t1
    omega
  unfold longI
  rw [em, es, et]
end
end Sw
namespace Sw
open PySem PySem.Spec PyProof.Rows L2 Evl
local macro_rules | `(tactic| walk_at "ev") => `(tactic| first
  | exact ev_c
  | exact ev_var rfl
  | ((with_reducible show Ev (tCB rMax2 _) _ _ _); exact ev_maxi (by walk_at "ev") (by walk_at "ev"))
  | ((with_reducible show Ev (tCB rMn _) _ _ _); exact ev_min2 (by walk_at "ev") (by walk_at "ev"))
  | ((with_reducible show Ev (tUn _ _) _ _ _); exact ev_un (by walk_at "ev") ru_neg)
  | ((with_reducible show Ev (tFld _ _ _) _ _ _); exact ev_fldK (by walk_at "ev") (by assumption))
  | ((with_reducible show Ev (tOp (rI0 _) _ _) _ _ _); exact ev_op (by walk_at "ev") (by walk_at "ev") rv_I0)
  | ((with_reducible show Ev (tOp rEq _ _) _ _ _); exact ev_op (by walk_at "ev") (by walk_at "ev") (rv_eq rfl))
  | ((with_reducible show Ev (tOp rNe _ _) _ _ _); exact ev_op (by walk_at "ev") (by walk_at "ev") (rv_ne rfl)))

section
variable {K : PySem.W.Frag} {σ : L2.St} {H H' : Hp} {ta tb te tx : TE} {x y z v : V} {a c : Addr} {xs : List V}
theorem ev_cval {C : Addr} {mc u : Value} {f : Str} (h : Ev ta σ H (.ref C)) (hc : ClX.CRead K C mc) (cv : ClX.CVal K C mc f v u) : Ev (ClX.tCVal K ta f) σ H v := fun H1 e Q q =>
  h H1 e _ fun H2 e2 => ⟨C, mc, v, u, rfl, hc, cv, q H2 e2⟩
def rTupS (K : PySem.W.Frag) : List V → Hp → VK → Prop := fun xs H Q => ∃ p ys, xs = [.ref p] ∧ ((SqL K H p ys ∧ ∀ l, H l = none → Q (.ref l) (upd H l (.tup ys))) ∨ (SqT K H p ys ∧ Q (.ref p) H))
theorem ev_tupT (h : Ev ta σ H (.ref a)) (hx : SqT K H a xs) : Ev (tCB (rTupS K) (tCons ta tNil)) σ H (.ref a) := fun H1 e Q q =>
  h H1 e _ fun H2 e2 => ⟨a, xs, rfl, .inr ⟨ex_t (e.trans e2) hx, q H2 e2⟩⟩
theorem eu_tupL (h : EvL ta σ H xs) : EvU (tCB (rTupS K) (tCons ta tNil)) σ H xs := fun H1 e Q q =>
  h H1 e _ fun p H2 _ e2 h2 => ⟨p, xs, rfl, .inl ⟨sq_of h2, fun l hl => q l _ (fresh_back e2 hl) (e2.trans (Ex.new hl)) upd_same⟩⟩
/-- what is handed back is some new object with P, seen apart from what M names -/
def EvR (te : TE) (σ : L2.St) (H : Hp) (M : Addr → Prop) (P : Addr → Hp → Prop) : Prop := ∀ H1, Ex H H1 → (∀ b, M b → H1 b ≠ none) → ∀ Q : VK, (∀ p H2, H1 p = none → Ex H1 H2 → P p (wn H2 M) → Q (.ref p) H2) → te σ H1 Q
end
theorem q_selfR {K : PySem.W.Frag} {σ : L2.St} {H : Hp} {ta te : TE} {a C dx : Addr} {fs : List (Str × V)} {f : Str} {D : Ends} {tz : TS} {M : Addr → Prop} {Pr : Addr → Hp → Prop} (ha : M a) (kn : ∀ b, M b → H b ≠ none) (h : EvR te σ H M Pr) (ho : ∀ H1, Ex H H1 → Ev ta σ H1 (.ref a)) (hx : H a = some (.ins C dx fs)) (c : Cls K C) (n : NoAttr K C f) (hl : fs.length < 1000)
    (hm : ∀ p H1 H2, Ex H1 H2 → Pr p H1 → Pr p H2)
    (k : ∀ (p : Addr) (S : Hp), Pr p (wn S M) → S a = some (.ins C dx (putF f (.ref p) fs)) → Go M a H S → tz D σ S) : tSeq (sFld K ta te f) tz D σ H :=
  h H (Ex.refl H) kn _ fun p H1 hp e1 hP => ho H1 e1 H1 (Ex.refl H1) _ fun H2 e2 => ⟨a, C, dx, fs, rfl, e2 _ _ (e1 _ _ hx), c, n, hl,
    k p _ (hm _ _ _ ((wn_mono e2).trans (wn_upd ha)) hP) upd_same (Go.up ha kn (e1.trans e2))⟩
/-! ### the checks, where nothing is wrong -/
variable {P : Program} {w : World} {K : PySem.W.Frag} {mg : Str → Option Value} {base : Heap} {Z : Ad}
def sp_num : Sp := fun vs H Q _ => ∃ n lo hi : Int, vs = [.int n, .int lo, .int hi] ∧ lo ≤ n ∧ n ≤ hi ∧ RetV .non H Q
theorem spv_num {H : Hp} {n lo hi : Int} (h1 : lo ≤ n) (h2 : n ≤ hi) : SpV sp_num [.int n, .int lo, .int hi] H .non := fun _ _ _ q _ => ⟨n, lo, hi, rfl, h1, h2, q⟩
theorem ok_check_number (T : Txt K mg Z) : FnOk P w K mg base CX0 1 Z.f_check_number Z.d_check_number p_check_number sp_num := by
  refine T.F_check_number.ok sc_check_number (fun vs H Q E h => ?_) (fun cdv Ar outer s H vs Q E hr h => ?_)
  · obtain ⟨n, lo, hi, rfl, _⟩ := h
    rfl
  · obtain ⟨n, lo, hi, rfl, h1, h2, k⟩ := h
    refine ⟨_, (pss_one (ps_if (PW.pt (pw_or (pt_cmpR op_lt (pv 0) (pv 1) (nomark _)) (pw_or1 (pt_cmpR op_gt (pv 0) (pv 2) (nomark _))))) (pss_one ps_no) pss_nil)), ?_⟩
    refine s_when (b := false) (et_is (et_or (et_test (by walk_at "ev")) fun _ => et_test (by walk_at "ev")) (by simp; omega)) (fun hb => nomatch hb) fun _ H1 e1 => k H1 e1
def sp_amounts (K : PySem.W.Frag) : Sp := fun vs H Q _ => ∃ (s : Str) (a : Addr) (am : List Int), vs = [.str s, .ref a] ∧ SqT K H a (am.map V.int) ∧ am.length ≤ 24 ∧ (∀ x ∈ am, 0 ≤ x ∧ x ≤ 1000000000) ∧ RetV .non H Q
theorem spv_amounts {H : Hp} {s : Str} {a : Addr} {am : List Int} (h : SqT K H a (am.map V.int)) (h1 : am.length ≤ 24) (h2 : ∀ x ∈ am, 0 ≤ x ∧ x ≤ 1000000000) : SpV (sp_amounts K) [.str s, .ref a] H .non := fun _ e _ q _ => ⟨s, a, am, rfl, ex_t e h, h1, h2, q⟩
theorem ok_check_amounts (T : Txt K mg Z) : FnOk P w K mg base CX0 3 Z.f_check_amounts Z.d_check_amounts p_check_amounts (sp_amounts K) := by
  refine T.F_check_amounts.ok sc_check_amounts (fun vs H Q E h => ?_) (fun cdv Ar outer s H vs Q E hr h => ?_)
  · obtain ⟨s, a, am, rfl, _⟩ := h
    rfl
  · obtain ⟨s, a, am, rfl, hS, hl, hb, k⟩ := h
    obtain ⟨cr, u, cv⟩ := T.cv_Bakery_MAX_DAYS
    refine ⟨_, (pss_one (ps_for PassesOwn.never rfl (pi_enumTK K rfl (by rfl) T.b_enumerate (pa_cons (pv 1) pa_nil)) (by exact (pg_tupK K (n := 2) rfl rfl (pgs_cons (pg_name (i := 2) sc_check_amounts.nd rfl (Or.inl rfl)) (pgs_cons (pg_name (i := 3) sc_check_amounts.nd rfl (Or.inl rfl)) pgs_nil)))) (pss_one (ps_if (PW.pt (pw_or (pt_cmpR op_eq (pv 2) (ClX.pe_cval (pe_glob (v := .ref Z.c_Bakery) (by rfl) T.g_Bakery rfl) rfl) (nomark _)) (pw_or (pt_cmpR op_lt (pv 3) pe_int (nomark _)) (pw_or1 (pt_cmpR op_gt (pv 3) (pe_glob (v := .int 1000000000) (by rfl) T.g_MOST_LOAVES ⟨_, rfl⟩) (nomark _)))))) (pss_one ps_no) pss_nil)))), ?_⟩
    refine s_forEnT (ea_cons (ev_var rfl) ea_nil) hS (fun i σ' H' => (∃ x y, σ' = [some (.str s), some (.ref a), x, y]) ∧ Ex H H') (fun H1 e1 => ⟨⟨_, _, rfl⟩, e1⟩) (fun i σ' H' _ p => p.2) ?_ ?_
    · rintro i x σ' H' hx ⟨⟨_, _, rfl⟩, e1⟩ H2 e2
      obtain ⟨rfl, hi⟩ := at_map hx
      have hb' := getD_mem0 (i := i) hb
      refine s_when (b := false) (et_is (et_or (et_test (ev_op (ev_var rfl) (ev_cval ev_c cr cv) (rv_eq rfl))) fun _ => et_or (et_test (by walk_at "ev")) fun _ => et_test (by walk_at "ev")) ?_) (fun hb => nomatch hb) fun _ H3 e3 => ⟨⟨_, _, rfl⟩, (e1.trans e2).trans e3⟩
      have q : ¬ (V.int (i : Nat) = V.int 24) := fun z => by injection z with z; omega
      generalize am.getD i 0 = v at hb'
      simp [q]; omega
    · rintro σ' H' ⟨⟨_, _, rfl⟩, e1⟩
      exact k H' e1
def sp_life1 : Sp := fun vs H Q _ => ∃ life : Int, vs = [.int life] ∧ 1 ≤ life ∧ life ≤ 30 ∧ RetV .non H Q
theorem spv_life {H : Hp} {life : Int} (l0 : 1 ≤ life) (l1 : life ≤ 30) : SpV sp_life1 [.int life] H .non := fun _ e _ q _ => ⟨life, rfl, l0, l1, q⟩
theorem ok_check_life (T : Txt K mg Z) : FnOk P w K mg base CX0 3 Z.f_check_life Z.d_check_life p_check_life sp_life1 := by
  refine T.F_check_life.ok sc_check_life (fun vs H Q E h => ?_) (fun cdv Ar outer s H vs Q E hr h => ?_)
  · obtain ⟨life, rfl, _⟩ := h
    rfl
  · obtain ⟨life, rfl, l0, l1, k⟩ := h
    obtain ⟨cr, u, cv⟩ := T.cv_Bakery_MAX_LIFE
    refine ⟨_, (pss_one (ps_if (PW.pt (pw_or (pt_cmpR op_lt (pv 0) pe_int (nomark _)) (pw_or1 (pt_cmpR op_gt (pv 0) (ClX.pe_cval (pe_glob (v := .ref Z.c_Bakery) (by rfl) T.g_Bakery rfl) rfl) (nomark _))))) (pss_one ps_no) pss_nil)), ?_⟩
    refine s_when (b := false) (et_is (et_or (et_test (by walk_at "ev")) fun _ => et_test (ev_op (ev_var rfl) (ev_cval ev_c cr cv) rv_I0)) (by simp; omega)) (fun hb => nomatch hb) fun _ H5 e5 => k H5 e5
def sp_check (K : PySem.W.Frag) : Sp := fun vs H Q _ => ∃ (a b : Addr) (bs ds : List Int) (life : Int), vs = [.ref a, .ref b, .int life] ∧ SqT K H a (bs.map V.int) ∧ SqT K H b (ds.map V.int) ∧ Good bs ds ∧ 1 ≤ life ∧ life ≤ 30 ∧ RetV .non H Q
theorem ok_check_bakery (T : Txt K mg Z) : FnOk P w K mg base CX0 4 Z.f_check_bakery Z.d_check_bakery p_check_bakery (sp_check K) := by
  refine T.F_check_bakery.ok sc_check_bakery (fun vs H Q E h => ?_) (fun cdv Ar outer s H vs Q E hr h => ?_)
  · obtain ⟨a, b, bs, ds, life, rfl, _⟩ := h
    rfl
  · obtain ⟨a, b, bs, ds, life, rfl, hB, hD, gd, l0, l1, k⟩ := h
    have h0 := gd.n0
    have hn := gd.n1
    have hld := gd.ld
    have e24 : ((bs.map V.int).length : Int) = (bs.length : Int) := by rw [List.length_map]
    have e24' : ((ds.map V.int).length : Int) = (ds.length : Int) := by rw [List.length_map]
    refine ⟨_, (pss_cons (ps_expr (pe_call (ok_check_amounts T) (hr.mono (by decide)) (by rfl) T.g_check_amounts T.F_check_amounts.kp T.b_check_amounts .nil pass0 (pa_cons pe_str (pa_cons (pv 0) pa_nil))))
      (pss_cons (ps_if (pt_cmpR op_eq (pe_callB (r := rLenS K) (call_len_seq) (by rfl) T.b_len boot_len (pa_cons (pv 0) pa_nil)) pe_int (nomark _)) (pss_one ps_no) pss_nil)
      (pss_cons (ps_expr (pe_call (ok_check_amounts T) (hr.mono (by decide)) (by rfl) T.g_check_amounts T.F_check_amounts.kp T.b_check_amounts .nil pass0 (pa_cons pe_str (pa_cons (pv 1) pa_nil))))
      (pss_cons (ps_if (pt_cmpR op_ne (pe_callB (r := rLenS K) (call_len_seq) (by rfl) T.b_len boot_len (pa_cons (pv 1) pa_nil)) (pe_callB (r := rLenS K) (call_len_seq) (by rfl) T.b_len boot_len (pa_cons (pv 0) pa_nil)) (nomark _)) (pss_one ps_no) pss_nil)
      (pss_one (ps_expr (pe_call (ok_check_life T) (hr.mono (by decide)) (by rfl) T.g_check_life T.F_check_life.kp T.b_check_life .nil pass0 (pa_cons (pv 2) pa_nil)))))))), ?_⟩
    refine q_drop (ev_call (ea_cons ev_c (ea_cons (ev_var rfl) ea_nil)) (spv_amounts hB (by omega) gd.b0)) fun H1 e1 => ?_
    refine q_when (b := false) (et_is (et_test (ev_op (Ev.int_eq (ev_lenT (ev_var rfl) (ex_t e1 hB)) e24) ev_c (rv_eq rfl))) ?_) (fun hb => nomatch hb) fun _ H2 e2 => ?_
    · have q : ¬ (V.int (bs.length : Int) = V.int 0) := fun z => by injection z with z; omega
      simp [q]
    refine q_drop (ev_call (ea_cons ev_c (ea_cons (ev_var rfl) ea_nil)) (spv_amounts (ex_t (e1.trans e2) hD) (by omega) gd.d0)) fun H3 e3 => ?_
    have eA := (e1.trans e2).trans e3
    refine q_when (b := false) (et_is (et_test (ev_op (Ev.int_eq (ev_lenT (ev_var rfl) (ex_t eA hD)) e24') (Ev.int_eq (ev_lenT (ev_var rfl) (ex_t eA hB)) e24) (rv_ne rfl))) ?_) (fun hb => nomatch hb) fun _ H4 e4 => ?_
    · have q : V.int (ds.length : Int) = V.int (bs.length : Int) := by rw [hld]
      simp [q]
    exact s_drop (ev_call (ea_cons (ev_var rfl) ea_nil) (spv_life l0 l1)) fun H5 e5 => k H5 ((eA.trans e4).trans e5)
/-! ### the bakery -/
def bakMeths : List Str := ["with_life", "baking_more", "stock", "sold", "missed", "thrown", "totals", "shelf", "MAX_LIFE"]
/-- a bakery -/
structure BakAt (K : PySem.W.Frag) (Z : Ad) (H : Hp) (b : Addr) (bs ds : List Int) (life : Int) (i : Nat) : Prop where
  fb : ∃ tb, FlK K H b Z.c_Bakery "_bakes" (.ref tb) ∧ SqT K H tb (bs.map V.int)
  fd : ∃ td, FlK K H b Z.c_Bakery "_demands" (.ref td) ∧ SqT K H td (ds.map V.int)
  fl : FlK K H b Z.c_Bakery "_life" (.int life)
  fc : ∃ c, FlK K H b Z.c_Bakery "course" (.ref c) ∧ CoAt K Z H c bs ds (keepL bs life)
  fs : FlK K H b Z.c_Bakery "_settled_day" (.int (grw bs ds (keepL bs life) * (bs.length : Int) + (i : Int)))
  fr : ∃ tl, FlK K H b Z.c_Bakery "_long_run" (.ref tl) ∧ SqT K H tl ((longI bs ds (lmOf bs ds (keepL bs life))).map V.int)
  gd : Good bs ds
  l0 : 1 ≤ life
  l1 : life ≤ 30
  hi : SetAt bs ds (keepL bs life) (gainOf bs ds) (firstOf bs ds (keepL bs life)) (fullOf bs ds (keepL bs life)) i
  nf : ∀ m : Str, m ∈ bakMeths → NoF H b Z.c_Bakery m
theorem BakAt.mono {H H' : Hp} {b : Addr} {bs ds : List Int} {life : Int} {i : Nat} (e : Ex H H') (h : BakAt K Z H b bs ds life i) : BakAt K Z H' b bs ds life i :=
  ⟨let ⟨a, x, y⟩ := h.fb; ⟨a, x.mono e, ex_t e y⟩, let ⟨a, x, y⟩ := h.fd; ⟨a, x.mono e, ex_t e y⟩, h.fl.mono e, let ⟨a, x, y⟩ := h.fc; ⟨a, x.mono e, CO.mono e y⟩, h.fs.mono e, let ⟨a, x, y⟩ := h.fr; ⟨a, x.mono e, ex_t e y⟩, h.gd, h.l0, h.l1, h.hi, fun m hm => (h.nf m hm).mono e⟩
theorem BakAt.com {H : Hp} {b : Addr} {bs ds : List Int} {life : Int} {i : Nat} (h : BakAt K Z H b bs ds life i) : CoM bs ds (keepL bs life) := ⟨h.gd, keepL_len, fun _ => keepL_nn h.gd.b0⟩
theorem BakAt.inst {H : Hp} {b : Addr} {bs ds : List Int} {life : Int} {i : Nat} (h : BakAt K Z H b bs ds life i) : ∃ dx fs, H b = some (.ins Z.c_Bakery dx fs) := let ⟨dx, fs, x, _⟩ := h.fl.fl; ⟨dx, fs, x⟩
/-- Course(..) -/
theorem er_course {σ : L2.St} {H : Hp} {M : Addr → Prop} {t : TA} {tb td : Addr} {bs ds : List Int} {life : Int} {E : XK} (ht : EvA t σ H [.ref tb, .ref td, .int life]) (hb : SqT K (wn H M) tb (bs.map V.int)) (hd : SqT K (wn H M) td (ds.map V.int)) (gd : Good bs ds) (l0 : 1 ≤ life) (l1 : life ≤ 30) :
    EvR (tMake Z.c_Course (sp_Cinit K Z) [] E t) σ H M (fun c H' => CoAt K Z H' c bs ds (keepL bs life)) := fun H1 e1 kn Q q => ht H1 e1 _ fun H2 e2 x dx hx hdx hne => by
  have eN : Ex H2 (upd (upd H2 dx (.own x)) x (.ins Z.c_Course dx [])) := fun b o hbo => by
    rw [upd_ne (ne_of_none hbo hx), upd_ne (ne_of_none hbo hdx)]; exact hbo
  have kn2 : ∀ b, M b → H2 b ≠ none := fun b hb z => kn b hb (fresh_back e2 z)
  refine ⟨x, dx, tb, td, bs, ds, life, M, rfl, upd_same, ex_t (wn_mono ((e1.trans e2).trans eN)) hb, ex_t (wn_mono ((e1.trans e2).trans eN)) hd, gd, l0, l1, fun b hb z => kn2 b hb (fresh_back eN z), fun z => kn2 x z hx, fun H3 hC k => ⟨rfl, ?_⟩⟩
  refine q x H3 (fresh_back e2 hx) (e2.trans fun b o hbo => k b o (eN b o hbo) (ne_of_none hbo hx)) hC
def sp_Binit (K : PySem.W.Frag) (Z : Ad) : Sp := fun vs H Q _ => ∃ (x dx tb td : Addr) (bs ds : List Int) (life : Int) (N : Addr → Prop), vs = [.ref x, .ref tb, .ref td, .int life] ∧ H x = some (.ins Z.c_Bakery dx []) ∧
  SqT K (wn H N) tb (bs.map V.int) ∧ SqT K (wn H N) td (ds.map V.int) ∧ Good bs ds ∧ 1 ≤ life ∧ life ≤ 30 ∧
  (∀ b, N b → H b ≠ none) ∧ ¬ N x ∧ ∀ H' i, BakAt K Z (wn H' N) x bs ds life i → (∀ b o, H b = some o → b ≠ x → H' b = some o) → Q .non H'
theorem er_bakery {σ : L2.St} {H : Hp} {M : Addr → Prop} {t : TA} {tb td : Addr} {bs ds : List Int} {life : Int} {E : XK} (ht : EvA t σ H [.ref tb, .ref td, .int life]) (hb : SqT K (wn H M) tb (bs.map V.int)) (hd : SqT K (wn H M) td (ds.map V.int)) (gd : Good bs ds) (l0 : 1 ≤ life) (l1 : life ≤ 30) :
    EvR (tMake Z.c_Bakery (sp_Binit K Z) [] E t) σ H M (fun c H' => ∃ i, BakAt K Z H' c bs ds life i) := fun H1 e1 kn Q q => ht H1 e1 _ fun H2 e2 x dx hx hdx hne => by
  have eN : Ex H2 (upd (upd H2 dx (.own x)) x (.ins Z.c_Bakery dx [])) := fun b o hbo => by
    rw [upd_ne (ne_of_none hbo hx), upd_ne (ne_of_none hbo hdx)]; exact hbo
  have kn2 : ∀ b, M b → H2 b ≠ none := fun b hb z => kn b hb (fresh_back e2 z)
  refine ⟨x, dx, tb, td, bs, ds, life, M, rfl, upd_same, ex_t (wn_mono ((e1.trans e2).trans eN)) hb, ex_t (wn_mono ((e1.trans e2).trans eN)) hd, gd, l0, l1, fun b hb z => kn2 b hb (fresh_back eN z), fun z => kn2 x z hx, fun H3 i hC k => ⟨rfl, ?_⟩⟩
  refine q x H3 (fresh_back e2 hx) (e2.trans fun b o hbo => k b o (eN b o hbo) (ne_of_none hbo hx)) ⟨i, hC⟩
theorem ok_Bakery___init__ (T : Txt K mg Z) : FnOk P w K mg base CX0 6 Z.f_Bakery___init__ Z.d_Bakery___init__ p_Bakery___init__ (sp_Binit K Z) := by
  refine T.F_Bakery___init__.ok sc_Bakery___init__ (fun vs H Q E h => ?_) (fun cdv Ar outer s H vs Q E hr h => ?_)
  · obtain ⟨x, dx, tb, td, bs, ds, life, N, rfl, _⟩ := h
    rfl
  · obtain ⟨x, dx, tb, td, bs, ds, life, N, rfl, hx, hb, hd, gd, l0, l1, hN, nNx, k⟩ := h
    have hM : nx x N x := .inl rfl
    have cl := T.cl_Bakery
    have cm : CoM bs ds (keepL bs life) := ⟨gd, keepL_len, fun _ => keepL_nn gd.b0⟩
    obtain ⟨i, hi⟩ := set_ex cm
    refine ⟨_, (pss_cons (ps_expr (pe_call (ok_check_bakery T) (hr.mono (by decide)) (by rfl) T.g_check_bakery T.F_check_bakery.kp T.b_check_bakery .nil pass0 (pa_cons (pv 1) (pa_cons (pv 2) (pa_cons (pv 3) pa_nil)))))
      (pss_cons (ps_fld (pv 0) (pe_callTy (r := rTupS K) (call_tuple_of) (by rfl) T.b_tuple boot_tuple (pa_cons (pv 1) pa_nil)) rfl)
      (pss_cons (ps_fld (pv 0) (pe_callTy (r := rTupS K) (call_tuple_of) (by rfl) T.b_tuple boot_tuple (pa_cons (pv 2) pa_nil)) rfl)
      (pss_cons (ps_fld (pv 0) (pv 3) rfl)
      (pss_cons (ps_fld (pv 0) (pe_make T.mk_Course (ok_Course___init__ T) (hr.mono (by decide)) (by rfl) T.g_Course T.b_Course___init__ .nil pass0 (pa_cons (pe_fldK K rfl (pv 0) rfl) (pa_cons (pe_fldK K rfl (pv 0) rfl) (pa_cons (pv 3) pa_nil)))) rfl)
      (pss_cons (ps_fld (pv 0) (pe_meth0 (pe_fldK K rfl (pv 0) rfl) T.cl_Course T.m_Course_find_settled (ok_Course_find_settled T) (hr.mono (by decide)) T.b_Course_find_settled .nil pass0) rfl)
      (pss_one (ps_fld (pv 0) (pe_meth0 (pe_fldK K rfl (pv 0) rfl) T.cl_Course T.m_Course_sum_settled_round (ok_Course_sum_settled_round T) (hr.mono (by decide)) T.b_Course_sum_settled_round .nil pass0) rfl)))))))), ?_⟩
    refine q_drop (ev_call (ea_cons (ev_var rfl) (ea_cons (ev_var rfl) (ea_cons (ev_var rfl) ea_nil))) (fun _ e _ q _ => ⟨tb, td, bs, ds, life, rfl, ex_t (wn_ex.trans e) hb, ex_t (wn_ex.trans e) hd, gd, l0, l1, q⟩)) fun H0 e0 => ?_
    have hbw : SqT K (wn H (nx x N)) tb (bs.map V.int) := wn_tx hx hb
    have hdw : SqT K (wn H (nx x N)) td (ds.map V.int) := wn_tx hx hd
    have w0 : Ex (wn H (nx x N)) (wn H0 (nx x N)) := wn_mono e0
    have kn0 : ∀ b, nx x N b → H0 b ≠ none := fun b z q => z.elim (fun e => by rw [e, e0 _ _ hx] at q; cases q) fun e => hN b e (fresh_back e0 q)
    refine q_self hM kn0 (ev_tupT (ev_var rfl) (ex_t (wn_ex.trans e0) hb)) (fun _ _ => ev_var rfl) (e0 _ _ hx) cl T.na_Bakery__bakes (by decide) fun S1 x1 g1 => ?_
    refine q_self hM g1.kn (ev_tupT (ev_var rfl) (ex_t ((w0.trans g1.ex).trans wn_ex) hdw)) (fun _ _ => ev_var rfl) x1 cl T.na_Bakery__demands (by show 1 < 1000; decide) fun S2 x2 g2 => ?_
    refine q_self hM g2.kn (ev_var rfl) (fun _ _ => ev_var rfl) x2 cl T.na_Bakery__life (by show 2 < 1000; decide) fun S3 x3 g3 => ?_
    have w03 := ((w0.trans g1.ex).trans g2.ex).trans g3.ex
    have fb3 := flk_of x3 cl T.na_Bakery__bakes (show _ = some (V.ref tb) from rfl)
    have fd3 := flk_of x3 cl T.na_Bakery__demands (show _ = some (V.ref td) from rfl)
    -- course
    refine q_selfR hM g3.kn (er_course (ea_cons (by walk_at "ev") (ea_cons (by walk_at "ev") (ea_cons (ev_var rfl) ea_nil))) (ex_t w03 hbw) (ex_t w03 hdw) gd l0 l1) (fun _ _ => ev_var rfl) x3 cl T.na_Bakery_course (by show 3 < 1000; decide)
      (fun p H1 H2 e hP => CO.mono e hP) fun c S4 c4 x4 g4 => ?_
    -- _settled_day
    have fc4 := flk_of x4 cl T.na_Bakery_course (show _ = some (V.ref c) from rfl)
    have fsr : ∀ {S : Hp}, CoAt K Z S c bs ds (keepL bs life) → SpV (sp_settled K Z) [.ref c] S (.int (grw bs ds (keepL bs life) * (bs.length : Int) + (i : Int))) := fun hC _ e _ q _ => by
      obtain ⟨tb', td', tk', s⟩ := hC.sr
      exact ⟨c, bs, ds, keepL bs life, tb', td', tk', _, _, _, i, rfl, ⟨s.mono e, (hC.nf _ (by decide)).mono e⟩, cm.gainb.1, hi, q⟩
    refine q_self hM g4.kn (ev_meth (by walk_at "ev") ((CO.mono wn_ex c4).nf _ (by decide)) ea_nil (fsr (CO.mono wn_ex c4))) (fun _ _ => ev_var rfl) x4 cl T.na_Bakery__settled_day (by show 4 < 1000; decide) fun S5 x5 g5 => ?_
    have fc5 := flk_of x5 cl T.na_Bakery_course (show _ = some (V.ref c) from rfl)
    have c5 : CoAt K Z (wn S5 (nx x N)) c bs ds (keepL bs life) := CO.mono g5.ex c4
    refine q_selfU hM g5.kn (xs := (longI bs ds (lmOf bs ds (keepL bs life))).map V.int) (eu_meth (by walk_at "ev") ((CO.mono wn_ex c5).nf _ (by decide)) ea_nil (fun _ e _ q _ => ⟨c, bs, ds, keepL bs life, _, _, _, _, _, rfl, CO.mono e (CO.mono wn_ex c5), q⟩)) (fun _ _ => ev_var rfl) x5 cl T.na_Bakery__long_run (by show 5 < 1000; decide) fun tl S6 hl6 x6 g6 => ?_
    have w06 := ((w03.trans g4.ex).trans g5.ex).trans g6.ex
    have sb : ∀ {S : Hp}, Ex (wn S (nx x N)) (wn S N) := wn_sub fun b z => .inr z
    have y6 : wn S6 N x = _ := (wn_ni nNx).trans x6
    refine k S6 i ⟨⟨tb, flk_of y6 cl T.na_Bakery__bakes rfl, ex_t (w06.trans sb) hbw⟩, ⟨td, flk_of y6 cl T.na_Bakery__demands rfl, ex_t (w06.trans sb) hdw⟩, flk_of y6 cl T.na_Bakery__life rfl, ⟨c, flk_of y6 cl T.na_Bakery_course rfl, CO.mono (g6.ex.trans sb) c5⟩,
      flk_of y6 cl T.na_Bakery__settled_day rfl, ⟨tl, flk_of y6 cl T.na_Bakery__long_run rfl, ex_t sb hl6⟩, gd, l0, l1, hi, ?_⟩ fun b o hbo hne => ?_
    · intro m hm
      refine ⟨_, _, y6, ?_⟩
      simp only [bakMeths, List.mem_cons, List.not_mem_nil, or_false] at hm
      rcases hm with rfl | rfl | rfl | rfl | rfl | rfl | rfl | rfl | rfl <;> rfl
    · exact g6.al b o (g5.al b o (g4.al b o (g3.al b o (g2.al b o (g1.al b o (e0 b o hbo) hne) hne) hne) hne) hne) hne
/-! ### a bakery's methods -/
theorem ev_prop {σ : L2.St} {H : Hp} {ta : TE} {C a : Addr} {sp : Sp} {E : XK} {z : V} (h : Ev ta σ H (.ref a)) (hi : ∃ dx fs, H a = some (.ins C dx fs)) (hs : SpV sp [.ref a] H z) : Ev (tProp C sp [] E ta) σ H z := fun H1 e Q q =>
  h H1 e _ fun H2 e2 => let ⟨dx, fs, h1⟩ := hi; ⟨a, dx, fs, rfl, e2 _ _ (e _ _ h1), hs H2 (e.trans e2) Q (fun H3 e3 => q H3 (e2.trans e3)) E⟩
def sp_Bset (K : PySem.W.Frag) (Z : Ad) : Sp := fun vs H Q _ => ∃ (b : Addr) (bs ds : List Int) (life : Int) (i : Nat), vs = [.ref b] ∧ BakAt K Z H b bs ds life i ∧ RetV (.int (grw bs ds (keepL bs life) * (bs.length : Int) + (i : Int))) H Q
theorem ok_Bakery_settled_day (T : Txt K mg Z) : FnOk P w K mg base CX0 1 Z.f_Bakery_settled_day Z.d_Bakery_settled_day p_Bakery_settled_day (sp_Bset K Z) := by
  refine T.F_Bakery_settled_day.ok sc_Bakery_settled_day (fun vs H Q E h => ?_) (fun cdv Ar outer s H vs Q E hr h => ?_)
  · obtain ⟨b, bs, ds, life, i, rfl, _⟩ := h
    rfl
  · obtain ⟨b, bs, ds, life, i, rfl, hB, k⟩ := h
    have fs := hB.fs
    refine ⟨_, (pss_one (ps_ret (pe_fldK K rfl (pv 0) rfl))), ?_⟩
    exact s_ret (by walk_at "ev") fun H1 e1 => k H1 e1
def sp_Blong (K : PySem.W.Frag) (Z : Ad) : Sp := fun vs H Q _ => ∃ (b : Addr) (bs ds : List Int) (life : Int) (i : Nat), vs = [.ref b] ∧ BakAt K Z H b bs ds life i ∧ ∀ p H', Ex H H' → SqT K H' p ((longI bs ds (lmOf bs ds (keepL bs life))).map V.int) → Q (.ref p) H'
theorem ok_Bakery_long_run (T : Txt K mg Z) : FnOk P w K mg base CX0 1 Z.f_Bakery_long_run Z.d_Bakery_long_run p_Bakery_long_run (sp_Blong K Z) := by
  refine T.F_Bakery_long_run.ok sc_Bakery_long_run (fun vs H Q E h => ?_) (fun cdv Ar outer s H vs Q E hr h => ?_)
  · obtain ⟨b, bs, ds, life, i, rfl, _⟩ := h
    rfl
  · obtain ⟨b, bs, ds, life, i, rfl, hB, k⟩ := h
    obtain ⟨tl, fl, hl⟩ := hB.fr
    refine ⟨_, (pss_one (ps_ret (pe_fldK K rfl (pv 0) rfl))), ?_⟩
    exact s_ret (by walk_at "ev") fun H1 e1 => k tl H1 e1 (ex_t e1 hl)
def sp_Bstock (K : PySem.W.Frag) (Z : Ad) : Sp := fun vs H Q _ => ∃ (b : Addr) (bs ds : List Int) (life : Int) (i : Nat) (t : Nat), vs = [.ref b, .int (t : Int)] ∧ (t : Int) ≤ 1000000000000000000 ∧ BakAt K Z H b bs ds life i ∧ RetV (.int (dayS bs ds (keepL bs life) t)) H Q
theorem ok_Bakery_stock (T : Txt K mg Z) : FnOk P w K mg base CX0 4 Z.f_Bakery_stock Z.d_Bakery_stock p_Bakery_stock (sp_Bstock K Z) := by
  refine T.F_Bakery_stock.ok sc_Bakery_stock (fun vs H Q E h => ?_) (fun cdv Ar outer s H vs Q E hr h => ?_)
  · obtain ⟨b, bs, ds, life, i, t, rfl, _⟩ := h
    rfl
  · obtain ⟨b, bs, ds, life, i, t, rfl, ht, hB, k⟩ := h
    refine ⟨_, (pss_cons (ps_expr (pe_call (ok_check_number T) (hr.mono (by decide)) (by rfl) T.g_check_number T.F_check_number.kp T.b_check_number .nil pass0 (pa_cons (pv 1) (pa_cons pe_int (pa_cons (pe_glob (v := .int 1000000000000000000) (by rfl) T.g_LAST_DAY ⟨_, rfl⟩) pa_nil)))))
      (pss_one (ps_ret (pe_meth (pe_fldK K rfl (pv 0) rfl) T.cl_Course T.m_Course_stock_at (ok_Course_stock_at T) (hr.mono (by decide)) T.b_Course_stock_at .nil pass0 (pa_cons (pv 1) pa_nil))))), ?_⟩
    refine q_drop (ev_call (ea_cons (ev_var rfl) (ea_cons ev_c (ea_cons ev_c ea_nil))) (spv_num (by omega) ht)) fun H1 e1 => ?_
    obtain ⟨c, fc, hC⟩ := (hB.mono e1).fc
    obtain ⟨tb, td, tk, s⟩ := hC.sr
    refine s_ret (ev_is (ev_meth (by walk_at "ev") (hC.nf _ (by decide)) (ea_cons (ev_var rfl) ea_nil) (spv_stock_at s)) ?_) fun H2 e2 => k H2 (e1.trans e2)
    rw [stock_is hB.com]
def sp_Bday (K : PySem.W.Frag) (Z : Ad) (j : Nat) : Sp := fun vs H Q _ => ∃ (b : Addr) (bs ds : List Int) (life : Int) (i : Nat) (t : Nat), vs = [.ref b, .int (t : Int)] ∧ (t : Int) ≤ 1000000000000000000 ∧ BakAt K Z H b bs ds life i ∧ RetV (.int ([solS bs ds (keepL bs life) t, misS bs ds (keepL bs life) t, thrS bs ds (keepL bs life) t].getD j 0)) H Q
theorem ok_Bakery_missed (T : Txt K mg Z) : FnOk P w K mg base CX0 4 Z.f_Bakery_missed Z.d_Bakery_missed p_Bakery_missed (sp_Bday K Z 1) := by
  refine T.F_Bakery_missed.ok sc_Bakery_missed (fun vs H Q E h => ?_) (fun cdv Ar outer s H vs Q E hr h => ?_)
  · obtain ⟨b, bs, ds, life, i, t, rfl, _⟩ := h
    rfl
  · obtain ⟨b, bs, ds, life, i, t, rfl, ht, hB, k⟩ := h
    refine ⟨_, (pss_cons (ps_expr (pe_call (ok_check_number T) (hr.mono (by decide)) (by rfl) T.g_check_number T.F_check_number.kp T.b_check_number .nil pass0 (pa_cons (pv 1) (pa_cons pe_int (pa_cons (pe_glob (v := .int 1000000000000000000) (by rfl) T.g_LAST_DAY ⟨_, rfl⟩) pa_nil)))))
      (pss_one (ps_ret (pe_ix (r := rIxT K) ix_tup (pe_meth (pe_fldK K rfl (pv 0) rfl) T.cl_Course T.m_Course_sales_on (ok_Course_sales_on T) (hr.mono (by decide)) T.b_Course_sales_on .nil pass0 (pa_cons (pv 1) pa_nil)) pe_int (fun _ _ => rfl))))), ?_⟩
    refine q_drop (ev_call (ea_cons (ev_var rfl) (ea_cons ev_c (ea_cons ev_c ea_nil))) (spv_num (by omega) ht)) fun H1 e1 => ?_
    obtain ⟨c, fc, hC⟩ := (hB.mono e1).fc
    obtain ⟨tb, td, tk, s⟩ := hC.sr
    have hs : salesI bs ds (keepL bs life) (gainOf bs ds) (firstOf bs ds (keepL bs life)) (fullOf bs ds (keepL bs life)) (t : Int) = _ := sales_is hB.com t
    refine s_ret (ev_ixNU (i := 1) (v := .int (misS bs ds (keepL bs life) t)) (eu_meth (by walk_at "ev") (hC.nf _ (by decide)) (ea_cons (ev_var rfl) ea_nil) (spu_sales_on s)) ev_c (by rw [hs]; rfl)) fun H2 e2 => k H2 (e1.trans e2)
theorem ok_Bakery_thrown (T : Txt K mg Z) : FnOk P w K mg base CX0 4 Z.f_Bakery_thrown Z.d_Bakery_thrown p_Bakery_thrown (sp_Bday K Z 2) := by
  refine T.F_Bakery_thrown.ok sc_Bakery_thrown (fun vs H Q E h => ?_) (fun cdv Ar outer s H vs Q E hr h => ?_)
  · obtain ⟨b, bs, ds, life, i, t, rfl, _⟩ := h
    rfl
  · obtain ⟨b, bs, ds, life, i, t, rfl, ht, hB, k⟩ := h
    refine ⟨_, (pss_cons (ps_expr (pe_call (ok_check_number T) (hr.mono (by decide)) (by rfl) T.g_check_number T.F_check_number.kp T.b_check_number .nil pass0 (pa_cons (pv 1) (pa_cons pe_int (pa_cons (pe_glob (v := .int 1000000000000000000) (by rfl) T.g_LAST_DAY ⟨_, rfl⟩) pa_nil)))))
      (pss_one (ps_ret (pe_ix (r := rIxT K) ix_tup (pe_meth (pe_fldK K rfl (pv 0) rfl) T.cl_Course T.m_Course_sales_on (ok_Course_sales_on T) (hr.mono (by decide)) T.b_Course_sales_on .nil pass0 (pa_cons (pv 1) pa_nil)) pe_int (fun _ _ => rfl))))), ?_⟩
    refine q_drop (ev_call (ea_cons (ev_var rfl) (ea_cons ev_c (ea_cons ev_c ea_nil))) (spv_num (by omega) ht)) fun H1 e1 => ?_
    obtain ⟨c, fc, hC⟩ := (hB.mono e1).fc
    obtain ⟨tb, td, tk, s⟩ := hC.sr
    have hs : salesI bs ds (keepL bs life) (gainOf bs ds) (firstOf bs ds (keepL bs life)) (fullOf bs ds (keepL bs life)) (t : Int) = _ := sales_is hB.com t
    refine s_ret (ev_ixNU (i := 2) (v := .int (thrS bs ds (keepL bs life) t)) (eu_meth (by walk_at "ev") (hC.nf _ (by decide)) (ea_cons (ev_var rfl) ea_nil) (spu_sales_on s)) ev_c (by rw [hs]; rfl)) fun H2 e2 => k H2 (e1.trans e2)
def totS (bs ds ks : List Int) (t : Nat) : List Int := [psum (solS bs ds ks) t, psum (misS bs ds ks) t, psum (thrS bs ds ks) t]
def sp_Btot (K : PySem.W.Frag) (Z : Ad) : Sp := fun vs H Q _ => ∃ (b : Addr) (bs ds : List Int) (life : Int) (i : Nat) (t : Nat), vs = [.ref b, .int (t : Int)] ∧ (t : Int) ≤ 1000000000000000000 ∧ BakAt K Z H b bs ds life i ∧ RetU ((totS bs ds (keepL bs life) t).map V.int) H Q
theorem ok_Bakery_totals (T : Txt K mg Z) : FnOk P w K mg base CX0 5 Z.f_Bakery_totals Z.d_Bakery_totals p_Bakery_totals (sp_Btot K Z) := by
  refine T.F_Bakery_totals.ok sc_Bakery_totals (fun vs H Q E h => ?_) (fun cdv Ar outer s H vs Q E hr h => ?_)
  · obtain ⟨b, bs, ds, life, i, t, rfl, _⟩ := h
    rfl
  · obtain ⟨b, bs, ds, life, i, t, rfl, ht, hB, k⟩ := h
    refine ⟨_, (pss_cons (ps_expr (pe_call (ok_check_number T) (hr.mono (by decide)) (by rfl) T.g_check_number T.F_check_number.kp T.b_check_number .nil pass0 (pa_cons (pv 1) (pa_cons pe_int (pa_cons (pe_glob (v := .int 1000000000000000000) (by rfl) T.g_LAST_DAY ⟨_, rfl⟩) pa_nil)))))
      (pss_one (ps_ret (pe_meth (pe_fldK K rfl (pv 0) rfl) T.cl_Course T.m_Course_sales_before (ok_Course_sales_before T) (hr.mono (by decide)) T.b_Course_sales_before .nil pass0 (pa_cons (pv 1) pa_nil))))), ?_⟩
    refine q_drop (ev_call (ea_cons (ev_var rfl) (ea_cons ev_c (ea_cons ev_c ea_nil))) (spv_num (by omega) ht)) fun H1 e1 => ?_
    obtain ⟨c, fc, hC⟩ := (hB.mono e1).fc
    refine s_retU (xs := (totS bs ds (keepL bs life) t).map V.int) (eu_meth (by walk_at "ev") (hC.nf _ (by decide)) (ea_cons (ev_var rfl) ea_nil) (fun _ e _ q _ => ?_)) fun p H2 hp e2 h2 => k p H2 (fresh_back e1 hp) (e1.trans e2) h2
    refine ⟨c, bs, ds, keepL bs life, _, _, _, _, _, (t : Int), rfl, by omega, CO.mono e hC, ?_⟩
    rw [tot_is hB.com]
    exact q
end Sw
namespace Sw
section
variable {bs ds ks : List Int}
theorem tot_long (h : CoM bs ds ks) {a : Nat} (hD : ∀ t, a ≤ t → dayS bs ds ks t = dayS bs ds ks (t + bs.length)) (T j : Nat) :
    (totS bs ds ks (a + T * bs.length)).getD j 0 = (totS bs ds ks a).getD j 0 + (T : Int) * (longI bs ds (lmOf bs ds ks)).getD j 0 := by
  have hm : ∀ t, a ≤ t → misS bs ds ks (t + bs.length) = misS bs ds ks t := fun t ht => by unfold misS dm bk; rw [Nat.add_mod_right, ← hD t ht]
  have hs : ∀ t, a ≤ t → solS bs ds ks (t + bs.length) = solS bs ds ks t := fun t ht => by unfold solS; rw [hm t ht]; unfold dm; rw [Nat.add_mod_right]
  have ht : ∀ t, a ≤ t → thrS bs ds ks (t + bs.length) = thrS bs ds ks t := fun t ht => by
    unfold thrS
    rw [hs t ht, ← hD t ht, show t + bs.length + 1 = t + 1 + bs.length by omega, ← hD (t + 1) (by omega)]
    unfold bk; rw [Nat.add_mod_right]
  rw [long_is h hD]
  unfold totS
  rw [rounds_psum hs T, rounds_psum hm T, rounds_psum ht T]
  match j with
  | 0 => rfl
  | 1 => rfl
  | 2 => rfl
  | j + 3 => simp [List.getD]
theorem stkAt_top {bs ds ks : List Int} {s : Int} {i : Nat} : stkAt bs ds ks s (i + 1) ≤ ks.getD i 0 := by
  show stp _ _ _ _ ≤ _
  unfold stp; omega
theorem keepAt_le {life : Int} {i : Nat} (h : ∀ x ∈ bs, 0 ≤ x ∧ x ≤ 1000000000) (l0 : 1 ≤ life) (l1 : life ≤ 30) : keepAt bs life i ≤ 29000000000 := by
  unfold keepAt
  have z := sum_bound (xs := (List.range (life - 1).toNat).map fun (age : Nat) => bs.getD ((((i : Int) - (age : Int)) % (bs.length : Int)).toNat) 0) (M := 1000000000) (by omega) (fun x hx => by
    obtain ⟨j, _, rfl⟩ := List.mem_map.mp hx
    exact getD_mem0 h)
  rw [List.length_map, List.length_range] at z
  have : ((life - 1).toNat : Int) * 1000000000 ≤ 29 * 1000000000 := Int.mul_le_mul_of_nonneg_right (by omega) (by omega)
  omega
theorem full_small {life : Int} (h : CoM bs ds (keepL bs life)) (l0 : 1 ≤ life) (l1 : life ≤ 30) : fullOf bs ds (keepL bs life) ≤ 29000000000 := by
  unfold fullOf
  obtain ⟨m, hm⟩ : ∃ m, bs.length = m + 1 := ⟨bs.length - 1, by have := h.gd.n0; omega⟩
  rw [hm]
  have z := stkAt_top (bs := bs) (ds := ds) (ks := keepL bs life) (s := (keepL bs life).getD 0 0 + ds.getD 0 0) (i := m)
  have e : (keepL bs life).getD m 0 = keepAt bs life m := by
    unfold keepL
    simp [List.getD, List.getElem?_range (show m < bs.length by omega)]
  have q := keepAt_le (i := m) h.gd.b0 l0 l1
  omega
theorem settled_small {life : Int} (h : CoM bs ds (keepL bs life)) (l0 : 1 ≤ life) (l1 : life ≤ 30) {i : Nat} (hi : SetAt bs ds (keepL bs life) (gainOf bs ds) (firstOf bs ds (keepL bs life)) (fullOf bs ds (keepL bs life)) i) :
    0 ≤ grw bs ds (keepL bs life) * (bs.length : Int) + (i : Int) ∧ grw bs ds (keepL bs life) * (bs.length : Int) + (i : Int) ≤ 1000000000000 := by
  have g0 := grw_nn h
  have f1 := full_small h l0 l1
  have f0 := h.first
  have fl := first_le h
  have n1 := h.gd.n1
  have hg := h.gainb.1
  have gs : grw bs ds (keepL bs life) ≤ 29000000000 := by
    by_cases z : gainOf bs ds = 0
    · have : grw bs ds (keepL bs life) = 0 := by unfold grw growing; rw [if_pos z]
      omega
    · have e : grw bs ds (keepL bs life) = -((firstOf bs ds (keepL bs life) - fullOf bs ds (keepL bs life)) / gainOf bs ds) := by unfold grw growing; rw [if_neg z]
      have q1 := Int.lt_ediv_add_one_mul_self (firstOf bs ds (keepL bs life) - fullOf bs ds (keepL bs life)) (show 0 < gainOf bs ds by omega)
      have q2 : (firstOf bs ds (keepL bs life) - fullOf bs ds (keepL bs life)) / gainOf bs ds ≥ firstOf bs ds (keepL bs life) - fullOf bs ds (keepL bs life) := by
        by_cases w : (firstOf bs ds (keepL bs life) - fullOf bs ds (keepL bs life)) / gainOf bs ds < firstOf bs ds (keepL bs life) - fullOf bs ds (keepL bs life)
        · exfalso
          have w1 : (firstOf bs ds (keepL bs life) - fullOf bs ds (keepL bs life)) / gainOf bs ds + 1 ≤ firstOf bs ds (keepL bs life) - fullOf bs ds (keepL bs life) := by omega
          have w2 : ((firstOf bs ds (keepL bs life) - fullOf bs ds (keepL bs life)) / gainOf bs ds + 1) * gainOf bs ds ≤ (firstOf bs ds (keepL bs life) - fullOf bs ds (keepL bs life)) * gainOf bs ds := Int.mul_le_mul_of_nonneg_right w1 hg
          have w3 : (firstOf bs ds (keepL bs life) - fullOf bs ds (keepL bs life)) * gainOf bs ds ≤ (firstOf bs ds (keepL bs life) - fullOf bs ds (keepL bs life)) * 1 := Int.mul_le_mul_of_nonpos_left (by omega) (by omega)
          omega
        · omega
      omega
  have n0 : 0 ≤ grw bs ds (keepL bs life) * (bs.length : Int) := Int.mul_nonneg g0 (by omega)
  have n2 : grw bs ds (keepL bs life) * (bs.length : Int) ≤ 29000000000 * 24 := by
    have w1 : grw bs ds (keepL bs life) * (bs.length : Int) ≤ grw bs ds (keepL bs life) * 24 := Int.mul_le_mul_of_nonneg_left (by omega) g0
    omega
  have := hi.1
  omega
end
end Sw
namespace Sw
open PySem PySem.Spec PyProof.Rows L2 Evl
local macro_rules | `(tactic| walk_at "ev") => `(tactic| first
  | exact ev_c
  | exact ev_var rfl
  | ((with_reducible show Ev (tCB rMax2 _) _ _ _); exact ev_maxi (by walk_at "ev") (by walk_at "ev"))
  | ((with_reducible show Ev (tCB rMn _) _ _ _); exact ev_min2 (by walk_at "ev") (by walk_at "ev"))
  | ((with_reducible show Ev (tUn _ _) _ _ _); exact ev_un (by walk_at "ev") ru_neg)
  | ((with_reducible show Ev (tFld _ _ _) _ _ _); exact ev_fldK (by walk_at "ev") (by assumption))
  | ((with_reducible show Ev (tOp (rI0 _) _ _) _ _ _); exact ev_op (by walk_at "ev") (by walk_at "ev") rv_I0)
  | ((with_reducible show Ev (tOp rEq _ _) _ _ _); exact ev_op (by walk_at "ev") (by walk_at "ev") (rv_eq rfl))
  | ((with_reducible show Ev (tOp rNe _ _) _ _ _); exact ev_op (by walk_at "ev") (by walk_at "ev") (rv_ne rfl)))

/-! ### losses: the first day with one -/
section
variable {bs ds ks : List Int}
def lossS (bs ds ks : List Int) (p : Nat) (t : Nat) : Int := [solS bs ds ks t, misS bs ds ks t, thrS bs ds ks t].getD p 0
theorem mis_nn (t : Nat) : 0 ≤ misS bs ds ks t := by unfold misS; omega
theorem thr_nn (h : CoM bs ds ks) (t : Nat) : 0 ≤ thrS bs ds ks t := by
  have e : dayS bs ds ks (t + 1) = stp (dayS bs ds ks t) (bk bs t) (dm bs ds t) (ks.getD (t % bs.length) 0) := rfl
  have k0 := h.kn (t % bs.length)
  unfold thrS solS misS
  rw [e]
  unfold stp
  omega
/-- nobody is missed in a round: nobody is from then on -/
theorem mis_none (h : CoM bs ds ks) {a : Nat} (q : ∀ j, j < bs.length → misS bs ds ks (a + j) ≤ 0) (t : Nat) (ht : a ≤ t) : misS bs ds ks t = 0 := by
  have n0 := h.gd.n0
  induction t using Nat.strongRecOn with
  | ind t ih =>
    by_cases hlt : t < a + bs.length
    · have z := q (t - a) (by omega)
      have e : a + (t - a) = t := by omega
      rw [e] at z
      have := mis_nn (bs := bs) (ds := ds) (ks := ks) t
      omega
    · have z := ih (t - bs.length) (by omega) (by omega)
      have w := misS_le h (t - bs.length)
      have e : t - bs.length + bs.length = t := by omega
      rw [e] at w
      have := mis_nn (bs := bs) (ds := ds) (ks := ks) t
      omega
/-- a day that throws some away ends settled -/
theorem thr_settled (h : CoM bs ds ks) {t : Nat} (ht : 0 < thrS bs ds ks t) : dayS bs ds ks (t + 1) = dayS bs ds ks (t + 1 + bs.length) := by
  have e : dayS bs ds ks (t + 1) = stp (dayS bs ds ks t) (bk bs t) (dm bs ds t) (ks.getD (t % bs.length) 0) := rfl
  have e2 : dayS bs ds ks (t + bs.length + 1) = stp (dayS bs ds ks (t + bs.length)) (bk bs (t + bs.length)) (dm bs ds (t + bs.length)) (ks.getD ((t + bs.length) % bs.length) 0) := rfl
  rw [Nat.add_mod_right] at e2
  have k0 := h.kn (t % bs.length)
  have le := dayS_le h (t + 1)
  have e3 : t + 1 + bs.length = t + bs.length + 1 := by omega
  rw [e3] at le ⊢
  unfold thrS solS misS at ht
  rw [e] at ht
  rw [e, e2] at le ⊢
  unfold stp at ht le ⊢
  omega
theorem thr_round (h : CoM bs ds ks) {D : Nat} (hD : ∀ t, D ≤ t → dayS bs ds ks t = dayS bs ds ks (t + bs.length)) {t : Nat} (ht : D ≤ t) : thrS bs ds ks (t + bs.length) = thrS bs ds ks t := by
  have q1 := hD t ht
  have q2 := hD (t + 1) (by omega)
  have e3 : t + 1 + bs.length = t + bs.length + 1 := by omega
  rw [e3] at q2
  unfold thrS solS misS dm bk
  rw [Nat.add_mod_right, ← q1, ← q2]
theorem thr_none (h : CoM bs ds ks) {D a : Nat} (hD : ∀ t, D ≤ t → dayS bs ds ks t = dayS bs ds ks (t + bs.length)) (hl : ∀ t, D = t + 1 → dayS bs ds ks t ≠ dayS bs ds ks (t + bs.length))
    (q : ∀ j, j < 1 + bs.length → thrS bs ds ks (max a (D - 1) + j) ≤ 0) (t : Nat) (ht : a ≤ t) : thrS bs ds ks t = 0 := by
  have n0 := h.gd.n0
  have nn := thr_nn h t
  by_cases hlt : t < max a (D - 1)
  · rcases Int.lt_or_le 0 (thrS bs ds ks t) with z | z
    · have s1 := thr_settled h z
      have s2 := dayS_same s1 (D - 1 - (t + 1))
      have e : t + 1 + (D - 1 - (t + 1)) = D - 1 := by omega
      rw [e] at s2
      exact absurd s2 (hl (D - 1) (by omega))
    · omega
  · have key : ∀ t, max a (D - 1) ≤ t → thrS bs ds ks t ≤ 0 := by
      intro t
      induction t using Nat.strongRecOn with
      | ind t ih =>
        intro ht
        by_cases hlt : t < max a (D - 1) + (1 + bs.length)
        · have z := q (t - max a (D - 1)) (by omega)
          have e : max a (D - 1) + (t - max a (D - 1)) = t := by omega
          rwa [e] at z
        · have z := ih (t - bs.length) (by omega) (by omega)
          have w := thr_round h hD (t := t - bs.length) (by omega)
          have e : t - bs.length + bs.length = t := by omega
          rw [e] at w
          omega
    have := key t (by omega)
    omega
end
/-- v: the first one of n days from a on with f, or None -/
def FindV (f : Nat → Int) (a n : Nat) (v : V) : Prop := (∃ k : Nat, k < n ∧ v = .int ((a + k : Nat) : Int) ∧ 0 < f (a + k) ∧ ∀ j, j < k → f (a + j) ≤ 0) ∨ (v = .non ∧ ∀ j, j < n → f (a + j) ≤ 0)
/-- v: the first day from a on with f, or None -/
def NextV (f : Nat → Int) (a : Nat) (v : V) : Prop := (∃ t : Nat, a ≤ t ∧ t ≤ a + 10000000000000 ∧ v = .int (t : Int) ∧ 0 < f t ∧ ∀ j, a ≤ j → j < t → f j = 0) ∨ (v = .non ∧ ∀ j, a ≤ j → f j = 0)
section
variable {P : Program} {w : World} {K : PySem.W.Frag} {mg : Str → Option Value} {base : Heap} {Z : Ad}
def sp_Bbakes (K : PySem.W.Frag) (Z : Ad) : Sp := fun vs H Q _ => ∃ (b : Addr) (bs ds : List Int) (life : Int) (i : Nat), vs = [.ref b] ∧ BakAt K Z H b bs ds life i ∧ ∀ p H', Ex H H' → SqT K H' p (bs.map V.int) → Q (.ref p) H'
theorem ok_Bakery_bakes (T : Txt K mg Z) : FnOk P w K mg base CX0 1 Z.f_Bakery_bakes Z.d_Bakery_bakes p_Bakery_bakes (sp_Bbakes K Z) := by
  refine T.F_Bakery_bakes.ok sc_Bakery_bakes (fun vs H Q E h => ?_) (fun cdv Ar outer s H vs Q E hr h => ?_)
  · obtain ⟨b, bs, ds, life, i, rfl, _⟩ := h
    rfl
  · obtain ⟨b, bs, ds, life, i, rfl, hB, k⟩ := h
    obtain ⟨tl, fl, hl⟩ := hB.fb
    refine ⟨_, (pss_one (ps_ret (pe_fldK K rfl (pv 0) rfl))), ?_⟩
    exact s_ret (by walk_at "ev") fun H1 e1 => k tl H1 e1 (ex_t e1 hl)
end
section
variable {K : PySem.W.Frag} {Z : Ad} {σ : L2.St} {H : Hp} {ta tb : TE} {b : Addr} {bs ds : List Int} {life : Int} {i : Nat}
theorem q_forR2B {D : Ends} {tu tz : TS} {t : TA} {j : Nat} {lo n : Int} (h : EvA t σ H [.int lo, .int n]) (hn : 0 ≤ lo ∧ lo ≤ 2000000000000000000 ∧ 0 ≤ n ∧ n ≤ 2000000000000000000) (Pv : Nat → L2.St → Hp → Prop) (h0 : ∀ H1, Ex H H1 → Pv 0 σ H1)
    (hs : ∀ (i : Nat) σ' H', lo + (i : Int) < n → Pv i σ' H' → tu { D with nx := Pv (i + 1), ct := Pv (i + 1), bk := tz D } (σ'.set j (some (.int (lo + (i : Int))))) H') (hd : ∀ σ' H', Pv (n - lo).toNat σ' H' → tz D σ' H') : tSeq (tFor (iRng2 t) (gName j) tu) tz D σ H :=
  h H (Ex.refl H) _ fun H1 e => ⟨lo, n, rfl, ⟨by omega, by omega, by omega, by omega⟩, for_range (lo := lo) (n := (n - lo).toNat) Pv (h0 H1 e) (fun i σ' H' hi p => hs i σ' H' (by omega) p) hd⟩
theorem ev_lenW {xs : List V} (h : EvW K ta σ H xs) : Ev (tCB (rLenS K) (tCons ta tNil)) σ H (.int (xs.length : Int)) := fun H1 e Q q =>
  h H1 e _ fun p H2 e2 hp => ev_lenT (σ := [some (.ref p)]) (ta := tVar 0) (a := p) (K := K) (ev_var rfl) hp H2 (Ex.refl _) Q (fun H3 e3 => q H3 (e2.trans e3)) |> fun z => by
    obtain ⟨v, r, z⟩ := z
    cases r
    exact z
theorem ew_bakes {E : XK} (h : Ev ta σ H (.ref b)) (hB : BakAt K Z H b bs ds life i) : EvW K (tProp Z.c_Bakery (sp_Bbakes K Z) [] E ta) σ H (bs.map V.int) := fun H1 e Q q =>
  h H1 e _ fun H2 e2 => let ⟨dx, fs, h1⟩ := hB.inst; ⟨b, dx, fs, rfl, e2 _ _ (e _ _ h1), b, bs, ds, life, i, rfl, hB.mono (e.trans e2), fun p H3 e3 h3 => q p H3 (e2.trans e3) h3⟩
theorem ev_set {E : XK} (h : Ev ta σ H (.ref b)) (hB : BakAt K Z H b bs ds life i) : Ev (tProp Z.c_Bakery (sp_Bset K Z) [] E ta) σ H (.int (grw bs ds (keepL bs life) * (bs.length : Int) + (i : Int))) := fun H1 e Q q =>
  h H1 e _ fun H2 e2 => let ⟨dx, fs, h1⟩ := hB.inst; ⟨b, dx, fs, rfl, e2 _ _ (e _ _ h1), b, bs, ds, life, i, rfl, hB.mono (e.trans e2), fun H3 e3 => q H3 (e2.trans e3)⟩
end
theorem s_retC {σ : L2.St} {H : Hp} {D : Ends} {sp : Sp} {E : XK} {t : TA} {vs : List V} (h : EvA t σ H vs) (k : ∀ H2, Ex H H2 → sp vs H2 D.rt E) : tRet (tCall sp [] E t) D σ H := h H (Ex.refl _) _ fun H2 e2 => by
  rw [List.append_nil]
  exact k H2 e2
def sp_find (K : PySem.W.Frag) (Z : Ad) : Sp := fun vs H Q _ => ∃ (b : Addr) (bs ds : List Int) (life : Int) (i p a n : Nat), vs = [.ref b, .int (p : Int), .int (a : Int), .int (n : Int)] ∧ BakAt K Z H b bs ds life i ∧ p < 3 ∧ (a : Int) ≤ 1100000000000000000 ∧ n ≤ 25 ∧ ∀ v H', Ex H H' → FindV (lossS bs ds (keepL bs life) p) a n v → Q v H'
def sp_loss (K : PySem.W.Frag) (Z : Ad) (p : Nat) : Sp := fun vs H Q _ => ∃ (b : Addr) (bs ds : List Int) (life : Int) (i a : Nat), vs = [.ref b, .int (a : Int)] ∧ BakAt K Z H b bs ds life i ∧ (a : Int) ≤ 1000000000000000000 ∧ ∀ v H', Ex H H' → NextV (lossS bs ds (keepL bs life) p) a v → Q v H'
variable {P : Program} {w : World} {K : PySem.W.Frag} {mg : Str → Option Value} {base : Heap} {Z : Ad}
theorem ok_find_loss (T : Txt K mg Z) : FnOk P w K mg base CX0 4 Z.f_find_loss Z.d_find_loss p_find_loss (sp_find K Z) := by
  refine T.F_find_loss.ok sc_find_loss (fun vs H Q E h => ?_) (fun cdv Ar outer s H vs Q E hr h => ?_)
  · obtain ⟨b, bs, ds, life, i, p, a, n, rfl, _⟩ := h
    rfl
  · obtain ⟨b, bs, ds, life, i, p, a, n, rfl, hB, hp, ha, hn, k⟩ := h
    refine ⟨_, (pss_cons (ps_for PassesOwn.never rfl (pi_range2 (by rfl) T.b_range (pa_cons (pv 2) (pa_cons (pe_op op_add (pv 2) (pv 3)) pa_nil))) (pg_name (i := 4) sc_find_loss.nd rfl (Or.inl rfl)) (pss_one (ps_if (pt_cmpR op_gt (pe_ix (r := rIxT K) ix_tup (pe_meth (pe_fldK K rfl (pv 0) rfl) T.cl_Course T.m_Course_sales_on (ok_Course_sales_on T) (hr.mono (by decide)) T.b_Course_sales_on .nil pass0 (pa_cons (pv 4) pa_nil)) (pv 1) (fun _ _ => rfl)) pe_int (nomark _)) (pss_one (ps_ret (pv 4))) pss_nil)))
      (pss_one (ps_ret pe_non))), ?_⟩
    refine q_forR2B (lo := (a : Int)) (n := (a : Int) + (n : Int)) (ea_cons (ev_var rfl) (ea_cons (by walk_at "ev") ea_nil)) ⟨by omega, by omega, by omega, by omega⟩
      (fun j σ' H' => (∃ x4, σ' = [some (.ref b), some (.int (p : Int)), some (.int (a : Int)), some (.int (n : Int)), x4]) ∧ Ex H H' ∧ ∀ u, u < j → lossS bs ds (keepL bs life) p (a + u) ≤ 0) (fun H1 e1 => ⟨⟨_, rfl⟩, e1, fun u hu => absurd hu (Nat.not_lt_zero _)⟩) ?_ ?_
    · rintro j σ' H' hj ⟨⟨x4, rfl⟩, e, hlt⟩
      have hBj := hB.mono e
      obtain ⟨c, fc, hC⟩ := hBj.fc
      obtain ⟨tb, td, tk, s⟩ := hC.sr
      have ej : (a : Int) + (j : Int) = ((a + j : Nat) : Int) := by omega
      have hs : salesI bs ds (keepL bs life) (gainOf bs ds) (firstOf bs ds (keepL bs life)) (fullOf bs ds (keepL bs life)) ((a + j : Nat) : Int) = _ := sales_is hB.com (a + j)
      rw [ej]
      refine s_when (et_test (ev_op (ev_ixNU (i := (p : Int)) (v := .int (lossS bs ds (keepL bs life) p (a + j))) (eu_meth (ev_fldK (ev_var rfl) fc) (hC.nf _ (by decide)) (ea_cons (ev_var rfl) ea_nil) (spu_sales_on s)) (ev_var rfl) (by
        rw [hs, atI_mapI (by omega) (by show (p : Int) < 3; omega), Int.toNat_natCast]; rfl)) ev_c rv_I0)) (fun hb H2 e2 => ?_) (fun hb H2 e2 => ?_)
      · exact s_ret (ev_var rfl) fun H3 e3 => k _ H3 ((e.trans e2).trans e3) (.inl ⟨j, by omega, rfl, by simpa using hb, hlt⟩)
      · refine ⟨⟨_, rfl⟩, e.trans e2, fun u hu => ?_⟩
        by_cases z : u < j
        · exact hlt u z
        · have z2 : u = j := by omega
          rw [z2]
          have : ¬ 0 < lossS bs ds (keepL bs life) p (a + j) := by simpa using hb
          omega
    · rintro σ' H' ⟨⟨x4, rfl⟩, e, hlt⟩
      exact s_ret ev_c fun H3 e3 => k _ H3 (e.trans e3) (.inr ⟨rfl, fun u hu => hlt u (by omega)⟩)
theorem ok_next_missed (T : Txt K mg Z) : FnOk P w K mg base CX0 5 Z.f_next_missed Z.d_next_missed p_next_missed (sp_loss K Z 1) := by
  refine T.F_next_missed.ok sc_next_missed (fun vs H Q E h => ?_) (fun cdv Ar outer s H vs Q E hr h => ?_)
  · obtain ⟨b, bs, ds, life, i, a, rfl, _⟩ := h
    rfl
  · obtain ⟨b, bs, ds, life, i, a, rfl, hB, ha, k⟩ := h
    refine ⟨_, (pss_cons (ps_expr (pe_call (ok_check_number T) (hr.mono (by decide)) (by rfl) T.g_check_number T.F_check_number.kp T.b_check_number .nil pass0 (pa_cons (pv 1) (pa_cons pe_int (pa_cons (pe_glob (v := .int 1000000000000000000) (by rfl) T.g_LAST_DAY ⟨_, rfl⟩) pa_nil)))))
      (pss_one (ps_ret (pe_call (ok_find_loss T) (hr.mono (by decide)) (by rfl) T.g_find_loss T.F_find_loss.kp T.b_find_loss .nil pass0 (pa_cons (pv 0) (pa_cons (pe_glob (v := .int 1) (by rfl) T.g_MISSED ⟨_, rfl⟩) (pa_cons (pv 1) (pa_cons (pe_callB (r := rLenS K) (call_len_seq) (by rfl) T.b_len boot_len (pa_cons (pe_prop (pv 0) T.cl_Bakery T.pp_Bakery_bakes (ok_Bakery_bakes T) (hr.mono (by decide)) T.b_Bakery_bakes .nil pass0 rfl) pa_nil)) pa_nil)))))))), ?_⟩
    refine q_drop (ev_call (vs := [.int (a : Int), .int 0, .int 1000000000000000000]) (ea_cons (ev_var rfl) (ea_cons ev_c (ea_cons ev_c ea_nil))) (spv_num (by omega) ha)) fun H1 e1 => ?_
    have hB1 := hB.mono e1
    have lenE : ((bs.map V.int).length : Int) = (bs.length : Int) := by rw [List.length_map]
    refine s_retC (vs := [.ref b, .int 1, .int (a : Int), .int (bs.length : Int)]) (ea_cons (ev_var rfl) (ea_cons ev_c (ea_cons (ev_var rfl) (ea_cons (Ev.int_eq (ev_lenW (ew_bakes (ev_var rfl) hB1)) lenE) ea_nil)))) fun H2 e2 => ⟨b, bs, ds, life, i, 1, a, bs.length, rfl, hB1.mono e2, by decide, by omega, by have := hB.gd.n1; omega, fun v H3 e3 hv => k v H3 ((e1.trans e2).trans e3) ?_⟩
    rcases hv with ⟨j, h1, rfl, h2, h3⟩ | ⟨rfl, h3⟩
    · refine .inl ⟨a + j, by omega, by have := hB.gd.n1; omega, rfl, h2, fun u h4 h5 => ?_⟩
      have z := h3 (u - a) (by omega)
      have e : a + (u - a) = u := by omega
      rw [e] at z
      have := mis_nn (bs := bs) (ds := ds) (ks := keepL bs life) u
      show misS bs ds (keepL bs life) u = 0
      have z' : misS bs ds (keepL bs life) u ≤ 0 := z
      omega
    · exact .inr ⟨rfl, fun u hu => mis_none hB.com h3 u hu⟩
theorem ok_next_thrown (T : Txt K mg Z) : FnOk P w K mg base CX0 5 Z.f_next_thrown Z.d_next_thrown p_next_thrown (sp_loss K Z 2) := by
  refine T.F_next_thrown.ok sc_next_thrown (fun vs H Q E h => ?_) (fun cdv Ar outer s H vs Q E hr h => ?_)
  · obtain ⟨b, bs, ds, life, i, a, rfl, _⟩ := h
    rfl
  · obtain ⟨b, bs, ds, life, i, a, rfl, hB, ha, k⟩ := h
    obtain ⟨s0, s1⟩ := settled_small hB.com hB.l0 hB.l1 hB.hi
    have same := fun {t : Nat} => settled_same hB.com hB.hi (t := t)
    have least := fun {t : Nat} => settled_least hB.com hB.hi (t := t)
    refine ⟨_, (pss_cons (ps_expr (pe_call (ok_check_number T) (hr.mono (by decide)) (by rfl) T.g_check_number T.F_check_number.kp T.b_check_number .nil pass0 (pa_cons (pv 1) (pa_cons pe_int (pa_cons (pe_glob (v := .int 1000000000000000000) (by rfl) T.g_LAST_DAY ⟨_, rfl⟩) pa_nil)))))
      (pss_cons (ps_set (i := 2) sc_next_thrown.nd rfl (Or.inl rfl) (pe_callB (r := rMax2) (call_max2 rfl) (by rfl) T.b_max boot_max (pa_cons (pv 1) (pa_cons (pe_op op_sub (pe_prop (pv 0) T.cl_Bakery T.pp_Bakery_settled_day (ok_Bakery_settled_day T) (hr.mono (by decide)) T.b_Bakery_settled_day .nil pass0 rfl) pe_int) pa_nil))))
      (pss_one (ps_ret (pe_call (ok_find_loss T) (hr.mono (by decide)) (by rfl) T.g_find_loss T.F_find_loss.kp T.b_find_loss .nil pass0 (pa_cons (pv 0) (pa_cons (pe_glob (v := .int 2) (by rfl) T.g_THROWN ⟨_, rfl⟩) (pa_cons (pv 2) (pa_cons (pe_op op_add pe_int (pe_callB (r := rLenS K) (call_len_seq) (by rfl) T.b_len boot_len (pa_cons (pe_prop (pv 0) T.cl_Bakery T.pp_Bakery_bakes (ok_Bakery_bakes T) (hr.mono (by decide)) T.b_Bakery_bakes .nil pass0 rfl) pa_nil))) pa_nil))))))))), ?_⟩
    refine q_drop (ev_call (vs := [.int (a : Int), .int 0, .int 1000000000000000000]) (ea_cons (ev_var rfl) (ea_cons ev_c (ea_cons ev_c ea_nil))) (spv_num (by omega) ha)) fun H1 e1 => ?_
    have hB1 := hB.mono e1
    obtain ⟨D, hD⟩ : ∃ D : Nat, grw bs ds (keepL bs life) * (bs.length : Int) + (i : Int) = (D : Int) := ⟨(grw bs ds (keepL bs life) * (bs.length : Int) + (i : Int)).toNat, by omega⟩
    rw [hD] at s0 s1 same least
    refine q_asg (v := .int ((max a (D - 1) : Nat) : Int)) (Ev.int_eq (ev_maxi (ev_var rfl) (ev_op (ev_is (ev_set (ev_var rfl) hB1) (congrArg V.int hD)) ev_c rv_I0)) (by omega)) fun H2 e2 => ?_
    have hB2 := hB1.mono e2
    have lenE : ((bs.map V.int).length : Int) = (bs.length : Int) := by rw [List.length_map]
    refine s_retC (vs := [.ref b, .int 2, .int ((max a (D - 1) : Nat) : Int), .int ((1 + bs.length : Nat) : Int)]) (ea_cons (ev_var rfl) (ea_cons ev_c (ea_cons (ev_var rfl) (ea_cons (Ev.int_eq (j := ((1 + bs.length : Nat) : Int)) (ev_op ev_c (Ev.int_eq (ev_lenW (ew_bakes (ev_var rfl) hB2)) lenE) rv_I0) (by omega)) ea_nil)))) fun H3 e3 => ⟨b, bs, ds, life, i, 2, max a (D - 1), 1 + bs.length, rfl, hB2.mono e3, by decide, by omega, by have := hB.gd.n1; omega, fun v H4 e4 hv => k v H4 (((e1.trans e2).trans e3).trans e4) ?_⟩
    have none := fun q => thr_none hB.com (D := D) (a := a) (fun t ht => same (by omega)) (fun t ht => least (t := t) (by omega)) q
    rcases hv with ⟨j, h1, rfl, h2, h3⟩ | ⟨rfl, h3⟩
    · refine .inl ⟨max a (D - 1) + j, by omega, by have := hB.gd.n1; omega, rfl, h2, fun u h4 h5 => ?_⟩
      have nn := thr_nn hB.com u
      by_cases z : max a (D - 1) ≤ u
      · have q := h3 (u - max a (D - 1)) (by omega)
        have e : max a (D - 1) + (u - max a (D - 1)) = u := by omega
        rw [e] at q
        show thrS bs ds (keepL bs life) u = 0
        have z' : thrS bs ds (keepL bs life) u ≤ 0 := q
        omega
      · show thrS bs ds (keepL bs life) u = 0
        rcases Int.lt_or_le 0 (thrS bs ds (keepL bs life) u) with z1 | z1
        · have s1 := thr_settled hB.com z1
          have s2 := dayS_same s1 (D - 1 - (u + 1))
          have e : u + 1 + (D - 1 - (u + 1)) = D - 1 := by omega
          rw [e] at s2
          exact absurd s2 (least (t := D - 1) (by omega))
        · omega
    · exact .inr ⟨rfl, fun u hu => none h3 u hu⟩
end Sw
namespace Sw
open PySem PySem.Spec PyProof.Rows L2 Evl
local macro_rules | `(tactic| walk_at "ev") => `(tactic| first
  | exact ev_c
  | exact ev_var rfl
  | ((with_reducible show Ev (tCB rMax2 _) _ _ _); exact ev_maxi (by walk_at "ev") (by walk_at "ev"))
  | ((with_reducible show Ev (tCB rMn _) _ _ _); exact ev_min2 (by walk_at "ev") (by walk_at "ev"))
  | ((with_reducible show Ev (tUn _ _) _ _ _); exact ev_un (by walk_at "ev") ru_neg)
  | ((with_reducible show Ev (tFld _ _ _) _ _ _); exact ev_fldK (by walk_at "ev") (by assumption))
  | ((with_reducible show Ev (tOp (rI0 _) _ _) _ _ _); exact ev_op (by walk_at "ev") (by walk_at "ev") rv_I0)
  | ((with_reducible show Ev (tOp rEq _ _) _ _ _); exact ev_op (by walk_at "ev") (by walk_at "ev") (rv_eq rfl))
  | ((with_reducible show Ev (tOp rNe _ _) _ _ _); exact ev_op (by walk_at "ev") (by walk_at "ev") (rv_ne rfl)))

/-! ### the law's draws: a list of a number, a list of cells, an index -/
def HS (H : Hp) (h l : Addr) : Prop := ∃ (m : Int) (cells : List Int) (idx : Int), H h = some (.lst [.int m, .ref l, .int idx]) ∧ H l = some (.lst (cells.map V.int)) ∧ 0 ≤ m ∧ m < 2147483647 ∧ 0 ≤ idx ∧ cells.length ≤ 63
def hl (h l : Addr) : Addr → Prop := fun b => b = h ∨ b = l
theorem HS.ne {H : Hp} {h l : Addr} (q : HS H h l) : l ≠ h := by
  obtain ⟨m, cells, idx, h1, h2, _⟩ := q
  intro e
  rw [e, h1] at h2
  have z := HO.lst.inj (Option.some.inj h2)
  cases cells with
  | nil => cases z
  | cons a r =>
    cases r with
    | nil => cases z
    | cons b r =>
      injection z with _ z
      injection z with z _
      cases z
theorem HS.mono {H H' : Hp} {h l : Addr} (e : Ex H H') (q : HS H h l) : HS H' h l :=
  let ⟨m, cells, idx, h1, h2, r⟩ := q; ⟨m, cells, idx, e _ _ h1, e _ _ h2, r⟩
theorem HS.kn {H : Hp} {h l : Addr} (q : HS H h l) : ∀ b, hl h l b → H b ≠ none := by
  obtain ⟨m, cells, idx, h1, h2, _⟩ := q
  rintro b (rfl | rfl) z
  · rw [h1] at z; cases z
  · rw [h2] at z; cases z
/-- a draw may change h and l, and makes what it likes -/
structure Dr (h l : Addr) (H H' : Hp) : Prop where
  hs : HS H' h l
  ex : Ex (wn H (hl h l)) (wn H' (hl h l))
theorem Dr.trans {h l : Addr} {H H1 H2 : Hp} (a : Dr h l H H1) (b : Dr h l H1 H2) : Dr h l H H2 := ⟨b.hs, a.ex.trans b.ex⟩
theorem Dr.refl {h l : Addr} {H : Hp} (q : HS H h l) : Dr h l H H := ⟨q, Ex.refl _⟩
theorem Dr.of {h l : Addr} {H H' : Hp} (q : HS H h l) (e : Ex H H') : Dr h l H H' := ⟨q.mono e, wn_mono e⟩
def sp_next : Sp := fun vs H Q _ => ∃ (h l : Addr) (limit : Int), vs = [.ref h, .int limit] ∧ 0 < limit ∧ limit ≤ 1000000000000000000 ∧ HS H h l ∧ ∀ v H', 0 ≤ v → v < limit → Dr h l H H' → Q (.int v) H'
section
variable {K : PySem.W.Frag} {σ : L2.St} {H H' : Hp} {ta tb te tx : TE} {x y z v : V} {a h l : Addr} {xs ys : List V}
theorem el_cat (ha : Ev ta σ H (.ref a)) (hx : H a = some (.lst xs)) (hb : EvL tb σ H ys) (hz : xs.length + ys.length ≤ 100000) : EvL (tOp rCat ta tb) σ H (xs ++ ys) := fun H1 e Q q =>
  ha H1 e _ fun H2 e2 => hb H2 (e.trans e2) _ fun p H3 _ e3 hp => ⟨a, p, xs, ys, rfl, rfl, e3 _ _ (e2 _ _ (e _ _ hx)), hp, sz_of hz, fun r hr => q r _ (fresh_back (e2.trans e3) hr) ((e2.trans e3).trans (Ex.new hr)) upd_same⟩
theorem Dr.upd {o : HO} (hN : hl h l a) (q : HS (L2.upd H a o) h l) : Dr h l H (L2.upd H a o) := ⟨q, wn_upd hN⟩
end
variable {P : Program} {w : World} {K : PySem.W.Frag} {mg : Str → Option Value} {base : Heap} {Z : Ad}
theorem ok__law_next (T : Txt K mg Z) : FnOk P w K mg base CX0 1 Z.f__law_next Z.d__law_next p__law_next sp_next := by
  refine T.F__law_next.ok sc__law_next (fun vs H Q E h => ?_) (fun cdv Ar outer s H vs Q E hr h => ?_)
  · obtain ⟨a, l, limit, rfl, _⟩ := h
    rfl
  · obtain ⟨a, l, limit, rfl, p0, p1, hs, k⟩ := h
    obtain ⟨m, cells, idx, h1, h2, m0, m1, i0, c0⟩ := id hs
    have nla := hs.ne
    have hlen : (((cells.map V.int).length : Nat) : Int) = (cells.length : Int) := by rw [List.length_map]
    have q0 : 0 ≤ idx % max 1 (cells.length : Int) := Int.emod_nonneg _ (by omega)
    have q1 : idx % max 1 (cells.length : Int) < max 1 (cells.length : Int) := Int.emod_lt_of_pos _ (by omega)
    have p10 : (10 : Int) ^ (18 : Int).toNat = 1000000000000000000 := by decide
    have ix1 : ∀ {σ : L2.St} {G : Hp} {te : TE}, Ev te σ G (.ref a) → G a = some (.lst [.int m, .ref l, .int idx]) → Ev (tOp (rIxL K) te (tC (.int 1))) σ G (.ref l) := fun he hg => ev_ixL he (sq_of hg) ev_c rfl
    have ix2 : ∀ {σ : L2.St} {G : Hp} {te : TE} {m' : Int}, Ev te σ G (.ref a) → G a = some (.lst [.int m', .ref l, .int idx]) → Ev (tOp (rIxL K) te (tC (.int 2))) σ G (.int idx) := fun he hg => ev_ixL he (sq_of hg) ev_c rfl
    refine ⟨_, (pss_cons (ps_set (i := 2) sc__law_next.nd rfl (Or.inl rfl) (pe_ix (r := rIxL K) ix_list (pe_op op_cat (pe_ix (r := rIxL K) ix_list (pv 0) pe_int (fun _ _ => rfl)) (pe_lst (pa_cons pe_int pa_nil))) (pe_op op_mod (pe_ix (r := rIxL K) ix_list (pv 0) pe_int (fun _ _ => rfl)) (pe_callB (r := rMax2) (call_max2 rfl) (by rfl) T.b_max boot_max (pa_cons pe_int (pa_cons (pe_callB (r := rLenS K) (call_len_seq) (by rfl) T.b_len boot_len (pa_cons (pe_ix (r := rIxL K) ix_list (pv 0) pe_int (fun _ _ => rfl)) pa_nil)) pa_nil)))) (fun _ _ => rfl)))
      (pss_cons (ps_if (pt_cmpR op_ge (pv 2) (pe_op op_pow pe_int pe_int) (nomark _)) (pss_cons (ps_asg (pe_op op_fdivW (pv 2) (pv 1)) (pg_sub (pe_ix (r := rIxL K) ix_list (pv 0) pe_int (fun _ _ => rfl)) (pe_op op_mod (pe_ix (r := rIxL K) ix_list (pv 0) pe_int (fun _ _ => rfl)) (pe_callB (r := rLenS K) (call_len_seq) (by rfl) T.b_len boot_len (pa_cons (pe_ix (r := rIxL K) ix_list (pv 0) pe_int (fun _ _ => rfl)) pa_nil))) set_list))
      (pss_one (ps_ret (pe_op op_mod (pv 2) (pv 1))))) pss_nil)
      (pss_cons (ps_asg (pe_op op_mod (pe_op op_add (pe_op op_add (pe_op op_mul (pe_ix (r := rIxL K) ix_list (pv 0) pe_int (fun _ _ => rfl)) pe_int) (pe_op op_mul (pv 2) pe_int)) pe_int) pe_int) (pg_sub (pv 0) pe_int set_list))
      (pss_cons (ps_asg (pe_op op_add (pe_ix (r := rIxL K) ix_list (pv 0) pe_int (fun _ _ => rfl)) pe_int) (pg_sub (pv 0) pe_int set_list))
      (pss_one (ps_ret (pe_op op_mod (pe_op op_fdivW (pe_ix (r := rIxL K) ix_list (pv 0) pe_int (fun _ _ => rfl)) pe_int) (pv 1)))))))), ?_⟩
    refine q_asg (v := .int ((cells ++ [0]).getD (idx % max 1 (cells.length : Int)).toNat 0)) (ev_ixNL (xs := (cells ++ [0]).map V.int) ?_ (ev_op (ix2 (ev_var rfl) h1) (ev_maxi ev_c (Ev.int_eq (ev_len (ix1 (ev_var rfl) h1) (sq_of h2)) hlen)) (rv_I (by show (0 : Int) < _; omega))) (atI_mapI q0 (by rw [List.length_append, List.length_singleton]; omega))) fun H1 e1 => ?_
    · rw [List.map_append]
      exact el_cat (ix1 (ev_var rfl) h1) h2 (el_lst (ea_cons ev_c ea_nil) (by show 1 ≤ 100000; decide)) (by rw [List.length_map]; show _ + 1 ≤ _; omega)
    generalize hcell : (cells ++ [0]).getD (idx % max 1 (cells.length : Int)).toNat 0 = cell
    have a1 := e1 _ _ h1
    have a2 := e1 _ _ h2
    refine q_when (b := decide ((1000000000000000000 : Int) ≤ cell)) (et_test (ev_is (ev_op (ev_var rfl) (Ev.int_eq (ev_op ev_c ev_c (rv_I ⟨by decide, by decide, by decide⟩)) p10) rv_I0) rfl)) (fun hb H2 e2 => ?_) (fun hb H2 e2 => ?_)
    · have hge : (1000000000000000000 : Int) ≤ cell := by simpa using hb
      have hc0 : 0 < cells.length := by
        rcases Nat.eq_zero_or_pos cells.length with z | z
        · exfalso
          have e0 : cells = [] := List.length_eq_zero_iff.mp z
          subst e0
          have z1 : max (1 : Int) ((([] : List Int).length : Nat) : Int) = 1 := by decide
          rw [z1, Int.emod_one] at hcell
          have z2 : (([] : List Int) ++ [0]).getD (0 : Int).toNat 0 = 0 := by decide
          rw [z2] at hcell
          omega
        · exact z
      have r0 : 0 ≤ idx % (cells.length : Int) := Int.emod_nonneg _ (by omega)
      have r1 : idx % (cells.length : Int) < (cells.length : Int) := Int.emod_lt_of_pos _ (by omega)
      obtain ⟨j, hj⟩ : ∃ j : Nat, idx % (cells.length : Int) = (j : Int) := ⟨(idx % (cells.length : Int)).toNat, by omega⟩
      have b1 := e2 _ _ a1
      have b2 := e2 _ _ a2
      refine q_setL (v := .int (cell / limit)) b2 (ev_op (ev_var rfl) (ev_var rfl) (rv_I (wide_div (b := 60) p0 (by omega) (by decide) (by decide)))) (ix1 (ev_var rfl) b1) (Ev.int_eq (ev_op (ix2 (ev_var rfl) b1) (Ev.int_eq (ev_len (ix1 (ev_var rfl) b1) (sq_of b2)) hlen) (rv_I (by show (0 : Int) < _; omega))) hj) (by rw [List.length_map]; omega) fun H3 e3 => ?_
      refine s_ret (ev_op (ev_var rfl) (ev_var rfl) (rv_I p0)) fun H4 e4 => ?_
      have q3 : HS (upd H3 l (.lst ((cells.map V.int).set j (.int (cell / limit))))) a l := ⟨m, cells.set j (cell / limit), idx, by rw [upd_ne nla.symm]; exact e3 _ _ b1, by rw [upd_same, List.map_set], m0, m1, i0, by rw [List.length_set]; exact c0⟩
      exact k _ _ (Int.emod_nonneg _ (by omega)) (Int.emod_lt_of_pos _ p0) (((Dr.of hs ((e1.trans e2).trans e3)).trans (Dr.upd (.inr rfl) q3)).trans (Dr.of q3 e4))
    · have b1 := e2 _ _ a1
      have b2 := e2 _ _ a2
      have n0 : 0 ≤ (m * 48271 + cell * 69621 + 11) % 2147483647 := Int.emod_nonneg _ (by omega)
      have n1 : (m * 48271 + cell * 69621 + 11) % 2147483647 < 2147483647 := Int.emod_lt_of_pos _ (by omega)
      refine q_setL (j := 0) (v := .int ((m * 48271 + cell * 69621 + 11) % 2147483647)) b1 (ev_op (ev_op (ev_op (ev_op (ev_ixL (v := .int m) (ev_var rfl) (sq_of b1) ev_c rfl) ev_c (rv_I (wide_ok (by decide)))) (ev_op (ev_var rfl) ev_c (rv_I (wide_ok (by decide)))) rv_I0) ev_c rv_I0) ev_c (rv_I (by show (0 : Int) < 2147483647; decide))) (ev_var rfl) ev_c (by show 0 < 3; decide) fun H3 e3 => ?_
      have d1 : (upd H3 a (.lst (([.int m, .ref l, .int idx] : List V).set 0 (.int ((m * 48271 + cell * 69621 + 11) % 2147483647))))) a = some (.lst [.int ((m * 48271 + cell * 69621 + 11) % 2147483647), .ref l, .int idx]) := upd_same
      have q3 : HS (upd H3 a (.lst (([.int m, .ref l, .int idx] : List V).set 0 (.int ((m * 48271 + cell * 69621 + 11) % 2147483647))))) a l := ⟨_, cells, idx, d1, by rw [upd_ne nla]; exact e3 _ _ b2, n0, n1, i0, c0⟩
      have D3 := (Dr.of hs ((e1.trans e2).trans e3)).trans (Dr.upd (.inl rfl) q3)
      refine q_setL (j := 2) (v := .int (idx + 1)) d1 (ev_op (ix2 (ev_var rfl) d1) ev_c rv_I0) (ev_var rfl) ev_c (by show 2 < 3; decide) fun H4 e4 => ?_
      generalize upd H3 a (.lst (([.int m, .ref l, .int idx] : List V).set 0 (.int ((m * 48271 + cell * 69621 + 11) % 2147483647)))) = S3 at d1 q3 D3 e4
      have d2 : (upd H4 a (.lst (([.int ((m * 48271 + cell * 69621 + 11) % 2147483647), .ref l, .int idx] : List V).set 2 (.int (idx + 1))))) a = some (.lst [.int ((m * 48271 + cell * 69621 + 11) % 2147483647), .ref l, .int (idx + 1)]) := upd_same
      have q4 : HS (upd H4 a (.lst (([.int ((m * 48271 + cell * 69621 + 11) % 2147483647), .ref l, .int idx] : List V).set 2 (.int (idx + 1))))) a l := by
        obtain ⟨_, cells', _, _, h2', _, _, _, c0'⟩ := q3
        exact ⟨_, cells', idx + 1, d2, by rw [upd_ne nla]; exact e4 _ _ h2', n0, n1, by omega, c0'⟩
      refine s_ret (ev_op (ev_op (ev_ixL (v := .int ((m * 48271 + cell * 69621 + 11) % 2147483647)) (ev_var rfl) (sq_of d2) ev_c rfl) ev_c (rv_I (wide_div (b := 3) (by decide) (by decide) (by decide) (by decide)))) (ev_var rfl) (rv_I p0)) fun H5 e5 => ?_
      exact k _ _ (Int.emod_nonneg _ (by omega)) (Int.emod_lt_of_pos _ p0) (((D3.trans (Dr.of q3 e4)).trans (Dr.upd (.inl rfl) q4)).trans (Dr.of q4 e5))
end Sw
namespace Sw
open PySem PySem.Spec PyProof.Rows L2 Evl
local macro_rules | `(tactic| walk_at "ev") => `(tactic| first
  | exact ev_c
  | exact ev_var rfl
  | ((with_reducible show Ev (tCB rMax2 _) _ _ _); exact ev_maxi (by walk_at "ev") (by walk_at "ev"))
  | ((with_reducible show Ev (tCB rMn _) _ _ _); exact ev_min2 (by walk_at "ev") (by walk_at "ev"))
  | ((with_reducible show Ev (tUn _ _) _ _ _); exact ev_un (by walk_at "ev") ru_neg)
  | ((with_reducible show Ev (tFld _ _ _) _ _ _); exact ev_fldK (by walk_at "ev") (by assumption))
  | ((with_reducible show Ev (tOp (rI0 _) _ _) _ _ _); exact ev_op (by walk_at "ev") (by walk_at "ev") rv_I0)
  | ((with_reducible show Ev (tOp rEq _ _) _ _ _); exact ev_op (by walk_at "ev") (by walk_at "ev") (rv_eq rfl))
  | ((with_reducible show Ev (tOp rNe _ _) _ _ _); exact ev_op (by walk_at "ev") (by walk_at "ev") (rv_ne rfl)))

/-! ### evaluating while cells are drawn -/
def EvX (te : TE) (σ : L2.St) (H : Hp) (h l : Addr) (P : V → Hp → Prop) : Prop := ∀ H1, Dr h l H H1 → ∀ Q : VK, (∀ v H2, Dr h l H1 H2 → P v (wn H2 (hl h l)) → Q v H2) → te σ H1 Q
def EvI (te : TE) (σ : L2.St) (H : Hp) (h l : Addr) (A : Int → Prop) : Prop := EvX te σ H h l fun v _ => ∃ i, v = .int i ∧ A i
def EvXT (t : TT) (σ : L2.St) (H : Hp) (h l : Addr) : Prop := ∀ H1, Dr h l H H1 → ∀ Q : Bool → Hp → Prop, (∀ b H2, Dr h l H1 H2 → Q b H2) → t σ H1 Q
/-- a list, a tuple of numbers -/
def LI (A : List Int → Prop) : V → Hp → Prop := fun v G => ∃ p ns, v = .ref p ∧ G p = some (.lst (ns.map V.int)) ∧ A ns
def TI' (A : List Int → Prop) : V → Hp → Prop := fun v G => ∃ p ns, v = .ref p ∧ G p = some (.tup (ns.map V.int)) ∧ A ns
section
variable {K : PySem.W.Frag} {σ : L2.St} {H H' : Hp} {ta tb tc te tx : TE} {x y z v : V} {a h l : Addr} {xs ys : List V} {A B C D : Int → Prop} {i j : Int}
theorem hl_kind {G : Hp} {p : Addr} {o : HO} (q : HS G h l) (hp : G p = some o) (ho : ∀ ys, o ≠ .lst ys) : ¬ hl h l p := by
  obtain ⟨m, cells, idx, h1, h2, _⟩ := q
  rintro (rfl | rfl)
  · rw [h1] at hp; exact ho _ (Option.some.inj hp).symm
  · rw [h2] at hp; exact ho _ (Option.some.inj hp).symm
theorem hl_new {G G' : Hp} {p : Addr} (q : HS G h l) (hp : G p = none) : ¬ hl h l p := fun z => q.kn p z hp
theorem x_ev (hv : Ev te σ (wn H (hl h l)) v) : EvX te σ H h l (fun u _ => u = v) := fun H1 d Q q => hv H1 (d.ex.trans wn_ex) Q fun H2 e2 => q v H2 (Dr.of d.hs e2) rfl
theorem xi_ev (hv : Ev te σ (wn H (hl h l)) (.int i)) (ha : A i) : EvI te σ H h l A := fun H1 d Q q => hv H1 (d.ex.trans wn_ex) Q fun H2 e2 => q _ H2 (Dr.of d.hs e2) ⟨i, rfl, ha⟩
theorem x_evU (hv : EvU te σ (wn H (hl h l)) xs) : EvX te σ H h l (fun u G => ∃ p, u = .ref p ∧ G p = some (.tup xs)) := fun H1 d Q q =>
  hv H1 (d.ex.trans wn_ex) Q fun p H2 hp e2 h2 => q _ H2 (Dr.of d.hs e2) ⟨p, rfl, by rw [wn_ni (hl_new (G' := H2) d.hs hp)]; exact h2⟩
theorem x_evL (hv : EvL te σ (wn H (hl h l)) xs) : EvX te σ H h l (fun u G => ∃ p, u = .ref p ∧ G p = some (.lst xs)) := fun H1 d Q q =>
  hv H1 (d.ex.trans wn_ex) Q fun p H2 hp e2 h2 => q _ H2 (Dr.of d.hs e2) ⟨p, rfl, by rw [wn_ni (hl_new (G' := H2) d.hs hp)]; exact h2⟩
theorem x_evW (hv : EvW K te σ (wn H (hl h l)) xs) : EvX te σ H h l (fun u G => ∃ p, u = .ref p ∧ SqT K G p xs) := fun H1 d Q q =>
  hv H1 (d.ex.trans wn_ex) Q fun p H2 e2 h2 => q _ H2 (Dr.of d.hs e2) ⟨p, rfl, by
    have q2 := d.hs.mono e2
    rcases h2 with (z | ⟨u, z⟩) | z
    · exact .inl (.inl (by rw [wn_ni (hl_kind q2 z (fun _ q => nomatch q))]; exact z))
    · exact .inl (.inr ⟨u, by rw [wn_ni (hl_kind q2 z (fun _ q => nomatch q))]; exact z⟩)
    · exact .inr z⟩
theorem x_evR {Pr : Addr → Hp → Prop} (hv : EvR te σ (wn H (hl h l)) (hl h l) Pr) : EvX te σ H h l (fun u G => ∃ p, u = .ref p ∧ Pr p G) := fun H1 d Q q =>
  hv H1 (d.ex.trans wn_ex) d.hs.kn Q fun p H2 _ e2 hP => q _ H2 (Dr.of d.hs e2) ⟨p, rfl, hP⟩
theorem EvX.imp {P P' : V → Hp → Prop} (hv : EvX te σ H h l P) (f : ∀ v G, P v G → P' v G) : EvX te σ H h l P' := fun H1 d Q q => hv H1 d Q fun v H2 d2 p => q v H2 d2 (f _ _ p)
theorem EvX.from {P : V → Hp → Prop} (d : Dr h l H H') (hv : EvX te σ H h l P) : EvX te σ H' h l P := fun H1 d1 Q q => hv H1 (d.trans d1) Q q
theorem EvI.imp (hv : EvI te σ H h l A) (f : ∀ i, A i → B i) : EvI te σ H h l B := fun H1 d Q q => hv H1 d Q fun v H2 d2 ⟨i, e, p⟩ => q v H2 d2 ⟨i, e, f i p⟩
theorem xi_op0 {g : Int → Int → Int} (ha : EvI ta σ H h l A) (hb : EvI tb σ H h l B) (hc : ∀ i j, A i → B j → D (g i j)) : EvI (tOp (rI0 fun i j => .int (g i j)) ta tb) σ H h l D := fun H1 d Q q =>
  ha H1 d _ fun _ H2 d2 ⟨i, e, hi⟩ => hb H2 (d.trans d2) _ fun _ H3 d3 ⟨j, e', hj⟩ => ⟨i, j, e, e', q _ H3 (d2.trans d3) ⟨_, rfl, hc i j hi hj⟩⟩
theorem xi_op {R : Int → Int → Prop} {g : Int → Int → Int} (ha : EvI ta σ H h l A) (hb : EvI tb σ H h l B) (hc : ∀ i j, A i → B j → R i j ∧ D (g i j)) : EvI (tOp (rI R fun i j => .int (g i j)) ta tb) σ H h l D := fun H1 d Q q =>
  ha H1 d _ fun _ H2 d2 ⟨i, e, hi⟩ => hb H2 (d.trans d2) _ fun _ H3 d3 ⟨j, e', hj⟩ => ⟨i, j, e, e', (hc i j hi hj).1, q _ H3 (d2.trans d3) ⟨_, rfl, (hc i j hi hj).2⟩⟩
theorem xi_next {E : XK} (ha : ∀ G, Ev ta σ G (.ref h)) (hb : EvI tb σ H h l A) (hA : ∀ i, A i → 0 < i ∧ i ≤ 1000000000000000000) : EvI (tCall sp_next [] E (tCons ta (tCons tb tNil))) σ H h l (fun v => 0 ≤ v ∧ ∃ i, A i ∧ v < i) := fun H1 d Q q =>
  ha H1 H1 (Ex.refl _) _ fun H2 e2 => hb H2 (d.trans (Dr.of d.hs e2)) _ fun _ H3 d3 ⟨i, e, hi⟩ => by
    subst e
    exact ⟨h, l, i, rfl, (hA i hi).1, (hA i hi).2, d3.hs, fun v H4 v0 v1 d4 => q _ H4 (((Dr.of d.hs e2).trans d3).trans d4) ⟨v, rfl, v0, i, hi, v1⟩⟩
theorem xb_cmp {g : Int → Int → Bool} (ha : EvI ta σ H h l A) (hb : EvI tb σ H h l B) : EvX (tOp (rI0 fun i j => .bl (g i j)) ta tb) σ H h l (fun v _ => ∃ k, v = .bl k) := fun H1 d Q q =>
  ha H1 d _ fun _ H2 d2 ⟨i, e, _⟩ => hb H2 (d.trans d2) _ fun _ H3 d3 ⟨j, e', _⟩ => ⟨i, j, e, e', q _ H3 (d2.trans d3) ⟨_, rfl⟩⟩
theorem xb_eq (ha : EvI ta σ H h l A) (hb : EvI tb σ H h l B) : EvX (tOp rEq ta tb) σ H h l (fun v _ => ∃ k, v = .bl k) := fun H1 d Q q =>
  ha H1 d _ fun _ H2 d2 ⟨i, e, _⟩ => hb H2 (d.trans d2) _ fun _ H3 d3 ⟨j, e', _⟩ => by
    subst e e'
    exact ⟨rfl, q _ H3 (d2.trans d3) ⟨_, rfl⟩⟩
def rInt1 : List V → Hp → VK → Prop := fun xs H Q => (∃ i, xs = [.int i] ∧ Q (.int i) H) ∨ ∃ k, xs = [.bl k] ∧ Q (.int (if k then 1 else 0)) H
theorem xi_intb (ha : EvX ta σ H h l (fun v _ => ∃ k, v = .bl k)) : EvI (tCB rInt1 (tCons ta tNil)) σ H h l (fun i => i = 0 ∨ i = 1) := fun H1 d Q q =>
  ha H1 d _ fun _ H2 d2 ⟨k, e⟩ => .inr ⟨k, by rw [e], q _ H2 d2 ⟨_, rfl, by cases k <;> simp⟩⟩
theorem xt_test (ha : EvX ta σ H h l (fun v _ => ∃ k, v = .bl k)) : EvXT (tTest ta) σ H h l := fun H1 d Q q => ha H1 d _ fun _ H2 d2 ⟨k, e⟩ => ⟨k, e, q k H2 d2⟩
/-- [a, b][draw] -/
theorem xi_pick {n : Nat} {ns : List Int} (ha : EvL ta σ (wn H (hl h l)) (ns.map V.int)) (hb : EvI tb σ H h l B) (hn : ∀ i, B i → 0 ≤ i ∧ i < ns.length) : EvI (tOp (rIxL K) ta tb) σ H h l (fun i => i ∈ ns) := fun H1 d Q q =>
  x_evL ha H1 d _ fun _ H2 d2 ⟨p, e, hp⟩ => hb H2 (d.trans d2) _ fun _ H3 d3 ⟨j, e', hj⟩ => by
    subst e e'
    obtain ⟨j0, j1⟩ := hn j hj
    refine ⟨p, ns.map V.int, j, .int (ns.getD j.toNat 0), rfl, rfl, sq_of (wn_ex _ _ (d3.ex _ _ hp)), atI_mapI j0 j1, q _ H3 (d2.trans d3) ⟨_, rfl, ?_⟩⟩
    have hlt : j.toNat < ns.length := by omega
    have e : ns.getD j.toNat 0 = ns[j.toNat] := by simp [List.getD, hlt]
    rw [e]; exact List.getElem_mem hlt
/-- [e for i in range(n)], e drawn -/
theorem x_lcR {ta : TA} {jj : Nat} {vs : List Nat} {n : Int} (hn : EvA ta σ (wn H (hl h l)) [.int n]) (hz : 0 ≤ n ∧ n ≤ 40000) (hw : ∀ x, wipe ((wipe σ vs).set jj (some x)) vs = wipe σ vs)
    (he : ∀ (i : Nat) H1, Dr h l H H1 → (i : Int) < n → EvI te ((wipe σ vs).set jj (some (.int (i : Int)))) H1 h l A) : EvX (tLc (iRng1 ta) (gName jj) tYes te vs) σ H h l (LI fun ns => (ns.length : Int) = n ∧ ∀ x ∈ ns, A x) := fun H0 d0 Q q =>
  hn H0 (d0.ex.trans wn_ex) _ fun H1 e1 => ⟨n, rfl, by omega, by omega, fun Dl hD => by
    have d1 := Dr.of d0.hs e1
    have nD : ¬ hl h l Dl := hl_new (G' := H1) d1.hs hD
    have dn : Dr h l H1 (upd H1 Dl (.lst [])) := Dr.of d1.hs (Ex.new hD)
    refine lc_range (lo := 0) (n := n.toNat) (fun i H' => Dr h l H1 H' ∧ ∃ ns : List Int, H' Dl = some (.lst (ns.map V.int)) ∧ ns.length = i ∧ ∀ x ∈ ns, A x) ⟨dn, [], upd_same, rfl, by simp⟩ (fun i H' hi p => ?_) (fun H' p => ?_)
    · obtain ⟨d2, ns, h2, hl2, hA⟩ := p
      have e0 : (0 : Int) + (i : Int) = (i : Int) := Int.zero_add _
      show wipe ((wipe σ vs).set jj (some (.int ((0 : Int) + (i : Int))))) vs = wipe σ vs ∧ _
      refine ⟨hw _, ?_⟩
      show te ((wipe σ vs).set jj (some (.int ((0 : Int) + (i : Int))))) H' _
      rw [e0]
      refine he i H' ((d0.trans d1).trans d2) (by omega) H' (Dr.refl d2.hs) _ fun v H3 d3 hv => ?_
      obtain ⟨k, rfl, hk⟩ := hv
      have h3 : H3 Dl = some (.lst (ns.map V.int)) := wn_ex _ _ (d3.ex _ _ (by rw [wn_ni nD]; exact h2))
      have d5 : Dr h l H1 (upd H3 Dl (.lst (ns.map V.int ++ [.int k]))) := ⟨by
        obtain ⟨m, cells, idx, a1, a2, r⟩ := d3.hs
        exact ⟨m, cells, idx, by rw [upd_ne (fun z => nD (.inl z.symm))]; exact a1, by rw [upd_ne (fun z => nD (.inr z.symm))]; exact a2, r⟩, fun b u hb => by
        obtain ⟨q1, q2⟩ := wn_some hb
        have z := wn_ex _ _ ((d2.trans d3).ex b u hb)
        rw [wn_ni q1, upd_ne (ne_of_none q2 hD)]
        exact z⟩
      refine ⟨_, h3, by rw [List.length_map]; exact sz_lt (by omega), d5, ns ++ [k], by rw [upd_same, List.map_append]; rfl, by rw [List.length_append, hl2]; rfl, fun x hx => ?_⟩
      rcases List.mem_append.mp hx with z | z
      · exact hA x z
      · rw [List.mem_singleton.mp z]; exact hk
    · obtain ⟨d2, ns, h2, hl2, hA⟩ := p
      exact q _ H' (d1.trans d2) ⟨Dl, ns, rfl, by rw [wn_ni nD]; exact h2, by omega, hA⟩⟩
/-- statements whose values are drawn -/
theorem x_ret {P : V → Hp → Prop} {D : Ends} (hs : HS H h l) (hx : EvX te σ H h l P) (k : ∀ v H2, Dr h l H H2 → P v (wn H2 (hl h l)) → D.rt v H2) : tRet te D σ H := hx H (Dr.refl hs) _ k
theorem x_asgG {P : V → Hp → Prop} {D : Ends} {tz : TS} {g : TG} (hs : HS H h l) (hx : EvX te σ H h l P) (k : ∀ v H2, Dr h l H H2 → P v (wn H2 (hl h l)) → g v σ H2 (tz D)) : tSeq (tAsg te g) tz D σ H := hx H (Dr.refl hs) _ k
theorem x_asg {P : V → Hp → Prop} {D : Ends} {tz : TS} {n : Nat} (hs : HS H h l) (hx : EvX te σ H h l P) (k : ∀ v H2, Dr h l H H2 → P v (wn H2 (hl h l)) → tz D (σ.set n (some v)) H2) : tSeq (tAsg te (gName n)) tz D σ H := hx H (Dr.refl hs) _ k
theorem x_asgI {D : Ends} {tz : TS} {n : Nat} (hs : HS H h l) (hx : EvI te σ H h l A) (k : ∀ i H2, Dr h l H H2 → A i → tz D (σ.set n (some (.int i))) H2) : tSeq (tAsg te (gName n)) tz D σ H := hx H (Dr.refl hs) _ fun _ H2 d ⟨i, e, p⟩ => by subst e; exact k i H2 d p
theorem x_par {P Q : V → Hp → Prop} {D : Ends} {tz : TS} {m n : Nat} (hs : HS H h l) (hx : EvX ta σ H h l P) (hy : EvX tb σ H h l Q) (k : ∀ v w H1 H2, Dr h l H H1 → Dr h l H1 H2 → P v (wn H1 (hl h l)) → Q w (wn H2 (hl h l)) → tz D ((σ.set m (some v)).set n (some w)) H2) : tSeq (tPar m n (tCons ta (tCons tb tNil))) tz D σ H :=
  hx H (Dr.refl hs) _ fun v H1 d1 p1 => hy H1 d1 _ fun w H2 d2 p2 => ⟨v, w, rfl, k v w H1 H2 d1 d2 p1 p2⟩
theorem x_if {D : Ends} {tt : TT} {tu tw tz : TS} (hs : HS H h l) (hx : EvXT tt σ H h l) (h1 : ∀ H2, Dr h l H H2 → tu { D with nx := tz D } σ H2) (h2 : ∀ H2, Dr h l H H2 → tw { D with nx := tz D } σ H2) : tSeq (tIfS tt tu tw) tz D σ H := hx H (Dr.refl hs) _ fun b H2 d => by
  cases b with
  | true => exact h1 H2 d
  | false => exact h2 H2 d
theorem x_ifK {M : L2.St → Hp → Prop} {D : Ends} {tt : TT} {tu tw tz : TS} (hs : HS H h l) (hx : EvXT tt σ H h l) (fin : ∀ σ' H', M σ' H' → tz D σ' H') (h1 : ∀ H2, Dr h l H H2 → (∀ σ' H', M σ' H' → tz D σ' H') → tu { D with nx := tz D } σ H2)
    (h2 : ∀ H2, Dr h l H H2 → (∀ σ' H', M σ' H' → tz D σ' H') → tw { D with nx := tz D } σ H2) : tSeq (tIfS tt tu tw) tz D σ H := x_if hs hx (fun H2 d => h1 H2 d fin) (fun H2 d => h2 H2 d fin)
/-- a call all of whose arguments are drawn: the first ones plain -/
theorem x_call3 {sp : Sp} {E : XK} {P : V → Hp → Prop} {u : V} (ha : ∀ G, Ev ta σ G u) (hb : EvI tb σ H h l A) (hc : EvI tc σ H h l B) (hp : ∀ i j H1, A i → B j → Dr h l H H1 → ∀ Q : VK, (∀ v H2, Dr h l H1 H2 → P v (wn H2 (hl h l)) → Q v H2) → sp [u, .int i, .int j] H1 Q E) :
    EvX (tCall sp [] E (tCons ta (tCons tb (tCons tc tNil)))) σ H h l P := fun H1 d Q q =>
  ha H1 H1 (Ex.refl _) _ fun H2 e2 => hb H2 (d.trans (Dr.of d.hs e2)) _ fun _ H3 d3 ⟨i, e, hi⟩ => hc H3 ((d.trans (Dr.of d.hs e2)).trans d3) _ fun _ H4 d4 ⟨j, e', hj⟩ => by
    subst e e'
    exact hp i j H4 hi hj (((d.trans (Dr.of d.hs e2)).trans d3).trans d4) Q fun v H5 d5 p => q v H5 ((((Dr.of d.hs e2)).trans d3).trans (d4.trans d5)) p
theorem x_tupL {A : List Int → Prop} (ha : EvX ta σ H h l (LI A)) : EvX (tCB (rTupS K) (tCons ta tNil)) σ H h l (TI' A) := fun H1 d Q q =>
  ha H1 d _ fun _ H2 d2 ⟨p, ns, e, hp, hA⟩ => ⟨p, ns.map V.int, by rw [e], .inl ⟨sq_of (wn_ex _ _ hp), fun t ht => by
    have d3 := Dr.of d2.hs (Ex.new (o := .tup (ns.map V.int)) ht)
    exact q _ _ (d2.trans d3) ⟨t, ns, rfl, by rw [wn_ni (hl_new (G' := H2) d2.hs ht)]; exact upd_same, hA⟩⟩⟩
theorem ew_cat (ha : EvW K ta σ H xs) (hb : EvW K tb σ H ys) (hz : xs.length + ys.length ≤ 100000) : EvW K (tOp (rCatA K) ta tb) σ H (xs ++ ys) := fun H1 e Q q =>
  ha H1 e _ fun p H2 e2 h2 => hb H2 (e.trans e2) _ fun r H3 e3 h3 => ⟨p, r, xs, ys, rfl, rfl, ex_t e3 h2, h3, sz_of hz,
    fun z => q r H3 (e2.trans e3) (by rw [z]; exact h3), fun _ z => q p H3 (e2.trans e3) (by rw [z, List.append_nil]; exact ex_t e3 h2),
    fun _ _ t ht => q t _ ((e2.trans e3).trans (Ex.new ht)) (st_of upd_same)⟩
theorem ew_drop {tl : TE} {k : Nat} (ha : EvW K te σ H xs) (hk : Ev tl σ H (.int (k : Int))) : EvW K (tSl (rSlA K) te (tPart tl) tNoPart) σ H (xs.drop k) := fun H1 e Q q =>
  ha H1 e _ fun p H2 e2 h2 => hk H2 (e.trans e2) _ fun H3 e3 => ⟨(k : Int), rfl, p, xs, rfl, ex_t e3 h2, fun w => by
      have hi : min k xs.length = 0 := by rw [← HT.sIx_nat xs.length 0 k]; exact w.1
      have t : xs.drop k = xs := by
        rcases Nat.eq_zero_or_pos k with z | z
        · rw [z]; rfl
        · have : xs.length = 0 := by omega
          rw [List.length_eq_zero_iff.mp this]; simp
      rw [t] at q
      exact q p H3 (e2.trans e3) (ex_t e3 h2), fun _ r hr => by
      refine q r _ ((e2.trans e3).trans (Ex.new hr)) (st_of ?_)
      rw [upd_same]
      unfold cutV
      rw [HT.sIx_none, HT.sIx_nat]
      congr 2
      by_cases hk : k ≤ xs.length
      · rw [Nat.min_eq_left hk, List.take_of_length_le (by simp)]
      · rw [Nat.min_eq_right (by omega)]
        simp [List.drop_eq_nil_of_le (Nat.le_of_not_le hk)]⟩
end
variable {P : Program} {w : World} {K : PySem.W.Frag} {mg : Str → Option Value} {base : Heap} {Z : Ad}
/-! ### _law_mix, _law_amounts, _law_parts -/
def sp_mix (K : PySem.W.Frag) : Sp := fun vs H Q _ => ∃ (a : Addr) (ns : List Int) (seed : Int), vs = [.ref a, .int seed] ∧ SqL K H a (ns.map V.int) ∧ ns.length ≤ 63 ∧ 0 ≤ seed ∧ seed < 2147483647 ∧
  ∀ h l H', H h = none → H l = none → Ex H H' → HS H' h l → Q (.ref h) H'
theorem ok__law_mix (T : Txt K mg Z) : FnOk P w K mg base CX0 1 Z.f__law_mix Z.d__law_mix p__law_mix (sp_mix K) := by
  refine T.F__law_mix.ok sc__law_mix (fun vs H Q E h => ?_) (fun cdv Ar outer s H vs Q E hr h => ?_)
  · obtain ⟨a, ns, seed, rfl, _⟩ := h
    rfl
  · obtain ⟨a, ns, seed, rfl, hS, hn, s0, s1, k⟩ := h
    refine ⟨_, (pss_cons (ps_set (i := 2) sc__law_mix.nd rfl (Or.inl rfl) (pv 1))
      (pss_cons (ps_for PassesOwn.never rfl (pi_listK K rfl (pv 0)) (pg_name (i := 3) sc__law_mix.nd rfl (Or.inl rfl)) (pss_one (ps_set (i := 2) sc__law_mix.nd rfl (Or.inl rfl) (pe_op op_mod (pe_op op_add (pe_op op_add (pe_op op_mul (pv 2) pe_int) (pe_op op_mod (pv 3) pe_int)) pe_int) pe_int))))
      (pss_one (ps_ret (pe_lst (pa_cons (pv 2) (pa_cons (pe_callTy (r := rListS K) (call_list_of) (by rfl) T.b_list boot_list (pa_cons (pv 0) pa_nil)) (pa_cons pe_int pa_nil)))))))), ?_⟩
    refine q_asg (ev_var rfl) fun H1 e1 => ?_
    refine q_forLn (ev_var rfl) (ex_l e1 hS) (fun i σ' H' => (∃ m x, σ' = [some (.ref a), some (.int seed), some (.int m), x] ∧ 0 ≤ m ∧ m < 2147483647) ∧ Ex H H') (fun H2 e2 => ⟨⟨seed, _, rfl, s0, s1⟩, e1.trans e2⟩) (fun i σ' H' _ p => ex_l p.2 hS) ?_ ?_
    · rintro i x σ' H' hx ⟨⟨m, _, rfl, m0, m1⟩, e2⟩
      obtain ⟨rfl, hi⟩ := at_map hx
      refine s_asg (ev_op (ev_op (ev_op (ev_op (ev_var rfl) ev_c (rv_I (wide_ok (by decide)))) (ev_op (ev_var rfl) ev_c (rv_I (by show (0 : Int) < 2147483629; decide))) rv_I0) ev_c rv_I0) ev_c (rv_I (by show (0 : Int) < 2147483647; decide))) fun H2 e3 => ?_
      exact ⟨⟨_, _, rfl, Int.emod_nonneg _ (by decide), Int.emod_lt_of_pos _ (by decide)⟩, e2.trans e3⟩
    · rintro σ' H' ⟨⟨m, _, rfl, m0, m1⟩, e2⟩
      have hS' := ex_l e2 hS
      refine ⟨.int m, rfl, ?_⟩
      refine el_list (ev_var (i := 0) rfl) hS' H' (Ex.refl _) _ fun p H3 hp e4 h3 => ?_
      refine ⟨by show 3 ≤ sizeLine; decide, fun r hr => ?_⟩
      have np : p ≠ r := ne_of_none h3 hr
      refine k r p _ (fresh_back (e2.trans e4) hr) (fresh_back e2 hp) ((e2.trans e4).trans (Ex.new hr)) ⟨m, ns, 0, upd_same, by rw [upd_ne np]; exact h3, m0, m1, by decide, hn⟩
def sp_lawamounts : Sp := fun vs H Q _ => ∃ (h l : Addr) (count wide : Int), vs = [.ref h, .int count, .int wide] ∧ 0 ≤ count ∧ count ≤ 1000 ∧ 0 < wide ∧ wide ≤ 1000000000 ∧ HS H h l ∧
  ∀ (p : Addr) (ns : List Int) (H' : Hp), Dr h l H H' → wn H' (hl h l) p = some (.tup (ns.map V.int)) → (ns.length : Int) = count → (∀ x ∈ ns, 0 ≤ x ∧ x < wide) → Q (.ref p) H'
theorem ok__law_amounts (T : Txt K mg Z) : FnOk P w K mg base CX0 2 Z.f__law_amounts Z.d__law_amounts p__law_amounts sp_lawamounts := by
  refine T.F__law_amounts.ok sc__law_amounts (fun vs H Q E h => ?_) (fun cdv Ar outer s H vs Q E hr h => ?_)
  · obtain ⟨a, l, count, wide, rfl, _⟩ := h
    rfl
  · obtain ⟨a, l, count, wide, rfl, c0, c1, w0, w1, hs, k⟩ := h
    refine ⟨_, (pss_one (ps_ret (pe_callTy (r := rTupS K) (call_tuple_of) (by rfl) T.b_tuple boot_tuple (pa_cons (pe_lc (own := [("_law_k", 3)]) rfl sc__law_amounts.nd (pi_range1 (by rfl) T.b_range (pa_cons (pv 1) pa_nil)) (blkOk_by (own := [("_law_k", 3)]) (N := n__law_amounts) (sc := defScope s__law_amounts) (scope := { kind := PySem.ScopeKind.function, names := [ (PySem.Str.ofString ".0", PySem.NameKind.local), (PySem.Str.ofString "_law_k", PySem.NameKind.local), (PySem.Str.ofString "_law_next", PySem.NameKind.globalImplicit), (PySem.Str.ofString "int", PySem.NameKind.globalImplicit), (PySem.Str.ofString "_law_h", PySem.NameKind.free), (PySem.Str.ofString "_law_wide", PySem.NameKind.free)], isGenerator := false, isCoroutine := false, more := [] : PySem.Scope }) (by decide +kernel)) (fun _ _ _ _ _ => (pg_name (i := 3) sc__law_amounts.nd rfl (Or.inl rfl))) (fun _ _ _ _ _ => pts_nil) (fun _ _ _ _ _ => (pe_op op_mul (pe_call (ok__law_next T) (hr.mono (by decide)) (by rfl) T.g__law_next T.F__law_next.kp T.b__law_next .nil pass0 (pa_cons (pv 0) (pa_cons (pv 2) pa_nil))) (pe_callTy (r := rInt1) (call_int1) (by rfl) T.b_int boot_int (pa_cons (pe_cmpR op_gt (pe_call (ok__law_next T) (hr.mono (by decide)) (by rfl) T.g__law_next T.F__law_next.kp T.b__law_next .nil pass0 (pa_cons (pv 0) (pa_cons pe_int pa_nil))) pe_int (nomark _)) pa_nil))))) pa_nil)))), ?_⟩
    have hx : EvX _ _ H a l (TI' fun ns => (ns.length : Int) = count ∧ ∀ x ∈ ns, 0 ≤ x ∧ x < wide) := x_tupL (K := K) (x_lcR (jj := 3) (vs := [3]) (n := count) (σ := [some (.ref a), some (.int count), some (.int wide), none]) (ea_cons (ev_var (i := 1) rfl) ea_nil) ⟨c0, by omega⟩ (fun _ => rfl) fun i H1 d1 hi =>
      xi_op (A := fun v => 0 ≤ v ∧ v < wide) (B := fun i => i = 0 ∨ i = 1) ((xi_next (E := E0) (A := fun i => i = wide) (fun G => ev_var (i := 0) rfl) (xi_ev (ev_var (i := 2) rfl) rfl) (fun i e => by omega)).imp fun v q => ⟨q.1, by obtain ⟨i, e, q⟩ := q.2; omega⟩)
        (xi_intb (xb_cmp (g := fun i j => decide (j < i)) (A := fun _ => True) (B := fun _ => True) ((xi_next (E := E0) (A := fun i => i = 4) (fun G => ev_var (i := 0) rfl) (xi_ev ev_c rfl) (fun i e => by omega)).imp fun _ _ => trivial) (xi_ev (i := 0) ev_c trivial)))
        (R := CMul) (g := fun i j => i * j) fun i j hi hj => ⟨by rcases hj with rfl | rfl <;> exact .inr (by decide), by rcases hj with rfl | rfl <;> simp <;> omega⟩)
    exact hx H (Dr.refl hs) _ fun v H2 d2 ⟨p, ns, e, hp, hl', hA⟩ => by
      subst e
      exact k p ns H2 d2 hp hl' hA
theorem x_amounts {σ : L2.St} {H : Hp} {h l : Addr} {ta tb tc : TE} {E : XK} {n w : Int} (ha : ∀ G, Ev ta σ G (.ref h)) (hb : Ev tb σ (wn H (hl h l)) (.int n)) (hc : Ev tc σ (wn H (hl h l)) (.int w)) (n0 : 0 ≤ n) (n1 : n ≤ 1000) (w0 : 0 < w) (w1 : w ≤ 1000000000) :
    EvX (tCall sp_lawamounts [] E (tCons ta (tCons tb (tCons tc tNil)))) σ H h l (TI' fun ns => (ns.length : Int) = n ∧ ∀ x ∈ ns, 0 ≤ x ∧ x < w) :=
  x_call3 (A := fun i => i = n) (B := fun j => j = w) ha (xi_ev hb rfl) (xi_ev hc rfl) fun i j H1 ei ej d1 Q q => by
    subst ei ej
    exact ⟨h, l, i, j, rfl, n0, n1, w0, w1, d1.hs, fun p ns H2 d2 hp e1 e2 => q _ H2 d2 ⟨p, ns, rfl, hp, e1, e2⟩⟩
theorem getD_le_sum {xs : List Int} (h : ∀ x ∈ xs, 0 ≤ x) (i : Nat) : xs.getD i 0 ≤ xs.sum := by
  induction xs generalizing i with
  | nil => simp
  | cons a r ih =>
    have h0 := h a (by simp)
    have hr : ∀ x ∈ r, 0 ≤ x := fun x hx => h x (by simp [hx])
    have s0 : 0 ≤ r.sum := by
      clear ih h
      induction r with
      | nil => simp
      | cons b r ih2 => rw [List.sum_cons]; have := hr b (by simp); have := ih2 fun x hx => hr x (by simp [hx]); omega
    cases i with
    | zero => rw [List.sum_cons, List.getD_cons_zero]; omega
    | succ i => rw [List.sum_cons, List.getD_cons_succ]; have := ih hr i; omega
/-- what is drawn for a bakery -/
structure Parts (K : PySem.W.Frag) (G : Hp) (pb pd : Addr) (bs ds : List Int) (life most wide : Int) : Prop where
  hb : SqT K G pb (bs.map V.int)
  hd : SqT K G pd (ds.map V.int)
  gd : Good bs ds
  ml : (bs.length : Int) ≤ most
  bw : ∀ x ∈ bs, x ≤ 25 * wide
  dw : ∀ x ∈ ds, x ≤ 25 * wide
  l0 : 1 ≤ life
  l1 : life ≤ 30
def sp_parts (K : PySem.W.Frag) : Sp := fun vs H Q _ => ∃ (h l : Addr) (most wide : Int), vs = [.ref h, .int most, .int wide] ∧ 1 ≤ most ∧ most ≤ 24 ∧ 1 ≤ wide ∧ wide ≤ 1000000000 ∧ HS H h l ∧
  ∀ (p pb pd : Addr) (bs ds : List Int) (life : Int) (H' : Hp), Dr h l H H' → wn H' (hl h l) p = some (.tup [.ref pb, .ref pd, .int life]) → Parts K (wn H' (hl h l)) pb pd bs ds life most wide → Q (.ref p) H'
theorem ok__law_parts (T : Txt K mg Z) : FnOk P w K mg base CX0 3 Z.f__law_parts Z.d__law_parts p__law_parts (sp_parts K) := by
  refine T.F__law_parts.ok sc__law_parts (fun vs H Q E h => ?_) (fun cdv Ar outer s H vs Q E hr h => ?_)
  · obtain ⟨a, l, most, wide, rfl, _⟩ := h
    rfl
  · obtain ⟨a, l, most, wide, rfl, m0, m1, w0, w1, hs, k⟩ := h
    refine ⟨_, (pss_cons (ps_set (i := 3) sc__law_parts.nd rfl (Or.inl rfl) (pe_op op_add pe_int (pe_call (ok__law_next T) (hr.mono (by decide)) (by rfl) T.g__law_next T.F__law_next.kp T.b__law_next .nil pass0 (pa_cons (pv 0) (pa_cons (pv 1) pa_nil)))))
      (pss_cons (ps_par (i := 4) (j := 5) rfl sc__law_parts.nd rfl rfl (by decide) rfl rfl (pa_cons (pe_call (ok__law_amounts T) (hr.mono (by decide)) (by rfl) T.g__law_amounts T.F__law_amounts.kp T.b__law_amounts .nil pass0 (pa_cons (pv 0) (pa_cons (pv 3) (pa_cons (pv 2) pa_nil)))) (pa_cons (pe_call (ok__law_amounts T) (hr.mono (by decide)) (by rfl) T.g__law_amounts T.F__law_amounts.kp T.b__law_amounts .nil pass0 (pa_cons (pv 0) (pa_cons (pv 3) (pa_cons (pv 2) pa_nil)))) pa_nil)) (by rfl))
      (pss_cons (ps_if (pt_cmpR op_eq (pe_call (ok__law_next T) (hr.mono (by decide)) (by rfl) T.g__law_next T.F__law_next.kp T.b__law_next .nil pass0 (pa_cons (pv 0) (pa_cons pe_int pa_nil))) pe_int (nomark _)) (pss_cons (ps_par (i := 6) (j := 7) rfl sc__law_parts.nd rfl rfl (by decide) rfl rfl (pa_cons (pe_call (ok__law_next T) (hr.mono (by decide)) (by rfl) T.g__law_next T.F__law_next.kp T.b__law_next .nil pass0 (pa_cons (pv 0) (pa_cons (pv 3) pa_nil))) (pa_cons (pe_op op_add (pe_op op_sub (pe_callB (r := rSumT K) (cr_sumT rfl) (by rfl) T.b_sum boot_sum (pa_cons (pv 5) pa_nil)) (pe_callB (r := rSumT K) (cr_sumT rfl) (by rfl) T.b_sum boot_sum (pa_cons (pv 4) pa_nil))) (pe_call (ok__law_next T) (hr.mono (by decide)) (by rfl) T.g__law_next T.F__law_next.kp T.b__law_next .nil pass0 (pa_cons (pv 0) (pa_cons pe_int pa_nil)))) pa_nil)) (by rfl))
      (pss_one (ps_set (i := 4) sc__law_parts.nd rfl (Or.inl rfl) (pe_op op_catA (pe_op op_catA (pe_slice (r := rSlA K) sl_tupA (pv 4) po_none (po_some (pv 6))) (pe_tup (pa_cons (pe_callB (r := rMax2) (call_max2 rfl) (by rfl) T.b_max boot_max (pa_cons pe_int (pa_cons (pe_callB (r := rMn) (call_min2 rfl) (by rfl) T.b_min boot_min (pa_cons (pe_op op_pow pe_int pe_int) (pa_cons (pe_op op_add (pe_ix (r := rIxT K) ix_tup (pv 4) (pv 6) (fun _ _ => rfl)) (pv 7)) pa_nil))) pa_nil))) pa_nil))) (pe_slice (r := rSlA K) sl_tupA (pv 4) (po_some (pe_op op_add (pv 6) pe_int)) po_none))))) pss_nil)
      (pss_one (ps_ret (pe_tup (pa_cons (pv 4) (pa_cons (pv 5) (pa_cons (pe_op op_add pe_int (pe_call (ok__law_next T) (hr.mono (by decide)) (by rfl) T.g__law_next T.F__law_next.kp T.b__law_next .nil pass0 (pa_cons (pv 0) (pa_cons (pe_ix (r := rIxL K) ix_list (pe_lst (pa_cons pe_int (pa_cons pe_int pa_nil))) (pe_call (ok__law_next T) (hr.mono (by decide)) (by rfl) T.g__law_next T.F__law_next.kp T.b__law_next .nil pass0 (pa_cons (pv 0) (pa_cons pe_int pa_nil))) (fun _ _ => rfl)) pa_nil)))) pa_nil))))))))), ?_⟩
    -- the count
    refine x_asgI (A := fun c => 1 ≤ c ∧ c ≤ most) hs (xi_op0 (g := fun i j => i + j) (A := fun i => i = 1) (B := fun i => 0 ≤ i ∧ i < most) (xi_ev ev_c rfl) ((xi_next (A := fun i => i = most) (fun G => ev_var rfl) (xi_ev (ev_var rfl) rfl) (fun i e => by omega)).imp fun v q => ⟨q.1, by obtain ⟨i, e, q⟩ := q.2; omega⟩) (fun i j hi hj => by omega)) fun c H1 d1 hc => ?_
    -- bakes, demands
    refine x_par d1.hs (x_amounts (n := c) (w := wide) (fun G => ev_var rfl) (ev_var rfl) (ev_var rfl) (by omega) (by omega) (by omega) w1) (x_amounts (n := c) (w := wide) (fun G => ev_var rfl) (ev_var rfl) (ev_var rfl) (by omega) (by omega) (by omega) w1) fun v v' H2 H3 d2 d3 ⟨pb, bs, e, hb, lb, bb⟩ ⟨pd, ds, e', hd, ld, dd⟩ => ?_
    subst e e'
    have hb3 := st_of (K := K) (d3.ex _ _ hb)
    have hd3 := st_of (K := K) hd
    have D3 := (d1.trans d2).trans d3
    have sd := sum_bound (xs := ds) (M := wide - 1) (by omega) (fun x hx => by have := dd x hx; omega)
    have sd2 : (ds.length : Int) * (wide - 1) ≤ 24 * (wide - 1) := Int.mul_le_mul_of_nonneg_right (by omega) (by omega)
    refine x_ifK (M := fun σ' H' => ∃ (pb' : Addr) (bs' : List Int) (u v : Option V), σ' = [some (.ref a), some (.int most), some (.int wide), some (.int c), some (.ref pb'), some (.ref pd), u, v] ∧ Dr a l H H' ∧ SqT K (wn H' (hl a l)) pb' (bs'.map V.int) ∧ SqT K (wn H' (hl a l)) pd (ds.map V.int) ∧
      (bs'.length : Int) = c ∧ ∀ x ∈ bs', 0 ≤ x ∧ x ≤ 1000000000 ∧ x ≤ 25 * wide) d3.hs (xt_test (xb_eq (A := fun _ => True) (B := fun _ => True) ((xi_next (A := fun i => i = 3) (fun G => ev_var rfl) (xi_ev ev_c rfl) (fun i e => by omega)).imp fun _ _ => trivial) (xi_ev (i := 0) ev_c trivial))) ?_ (fun H4 d4 fin => ?_) (fun H4 d4 fin => ?_)
    · rintro σ' H' ⟨pb', bs', u, v, rfl, dD, hb', hd', lb', bb'⟩
      refine ⟨_, rfl, _, rfl, ?_⟩
      refine xi_op0 (g := fun i j => i + j) (A := fun i => i = 1) (B := fun i => 0 ≤ i ∧ i < 30) (D := fun i => 1 ≤ i ∧ i ≤ 30) (xi_ev ev_c rfl) ((xi_next (A := fun i => i ∈ ([4, 30] : List Int)) (fun G => ev_var (i := 0) rfl) (xi_pick (K := K) (n := 2) (ns := [4, 30]) (B := fun i => 0 ≤ i ∧ i < 2) (el_lst (ea_cons ev_c (ea_cons ev_c ea_nil)) (by show 2 ≤ 100000; decide)) ((xi_next (A := fun i => i = 2) (fun G => ev_var (i := 0) rfl) (xi_ev ev_c rfl) (fun i e => by omega)).imp fun v q => ⟨q.1, by obtain ⟨i, e, q⟩ := q.2; omega⟩) (fun i q => by simpa using q)) (fun i hi => by simp at hi; omega)).imp fun v q => ⟨q.1, by obtain ⟨i, e, q⟩ := q.2; simp at e; omega⟩) (fun i j hi hj => by omega) H' (Dr.refl dD.hs) _ fun _ H7 d7 ⟨lf, e7, l7⟩ => ?_
      subst e7
      refine ⟨by show 3 ≤ sizeLine; decide, fun r hr => ?_⟩
      have d8 := Dr.of d7.hs (Ex.new (o := .tup [.ref pb', .ref pd, .int lf]) hr)
      have w78 := (d7.trans d8).ex
      refine k r pb' pd bs' ds lf _ (dD.trans (d7.trans d8)) (by rw [wn_ni (hl_new (G' := H7) d7.hs hr)]; exact upd_same) ⟨ex_t w78 hb', ex_t w78 hd', ⟨by omega, by omega, by omega, fun x hx => ⟨(bb' x hx).1, (bb' x hx).2.1⟩, fun x hx => by have := dd x hx; omega⟩, by omega, fun x hx => (bb' x hx).2.2, fun x hx => by have := dd x hx; omega, l7.1, l7.2⟩
    · have D4 := D3.trans d4
      have hb4 := ex_t d4.ex hb3
      have hd4 := ex_t d4.ex hd3
      refine x_par (P := fun v _ => ∃ i, v = .int i ∧ 0 ≤ i ∧ i < c) (Q := fun v _ => ∃ i, v = .int i ∧ i ≤ ds.sum - bs.sum + 2) d4.hs ((xi_next (A := fun i => i = c) (fun G => ev_var rfl) (xi_ev (ev_var rfl) rfl) (fun i e => by omega)).imp fun v q => ⟨q.1, by obtain ⟨i, e, q⟩ := q.2; omega⟩)
        (xi_op0 (g := fun i j => i + j) (A := fun i => i = ds.sum - bs.sum) (B := fun i => i < 3) (xi_ev (ev_op (ev_sumT (ev_var rfl) hd4) (ev_sumT (ev_var rfl) hb4) rv_I0) rfl) ((xi_next (A := fun i => i = 3) (fun G => ev_var rfl) (xi_ev ev_c rfl) (fun i e => by omega)).imp fun v q => by obtain ⟨i, e, q⟩ := q.2; omega) (fun i j hi hj => by omega)) fun v w H5 H6 d5 d6 ⟨kk, e5, k0, k1⟩ ⟨mo, e6, hmo⟩ => ?_
      subst e5 e6
      have D6 := D4.trans (d5.trans d6)
      have hb6 := ex_t (d5.trans d6).ex hb4
      have hd6 := ex_t (d5.trans d6).ex hd4
      obtain ⟨kn, rfl⟩ : ∃ kn : Nat, kk = (kn : Int) := ⟨kk.toNat, by omega⟩
      have p9 : (10 : Int) ^ (9 : Int).toNat = 1000000000 := by decide
      have hW := x_evW (K := K) (H := H6) (h := a) (l := l) (σ := [some (.ref a), some (.int most), some (.int wide), some (.int c), some (.ref pb), some (.ref pd), some (.int (kn : Int)), some (.int mo)])
        (ew_cat (ew_cat (ew_take (k := kn) (ew_of (ev_var (i := 4) rfl) hb6) (ev_var (i := 6) rfl)) (EvU.w (eu_tup (ea_cons (ev_maxi (i := 0) ev_c (ev_min2 (Ev.int_eq (ev_op (x := .int 10) (y := .int 9) ev_c ev_c (rv_I (C := CPow) (g := fun i j => .int (i ^ j.toNat)) ⟨by decide, by decide, by decide⟩)) p9) (ev_op (ev_ixT (K := K) (ev_var (i := 4) rfl) hb6 (ev_var (i := 6) rfl) (atI_mapI (by omega) (by omega))) (ev_var (i := 7) rfl) (rv_I0 (g := fun i j => .int (i + j)))))) ea_nil) (by show 1 ≤ 100000; decide))) (by simp; omega))
          (ew_drop (k := kn + 1) (ew_of (ev_var (i := 4) rfl) hb6) (Ev.int_eq (ev_op (ev_var (i := 6) rfl) (ev_c (v := .int 1)) (rv_I0 (g := fun i j => .int (i + j)))) (by omega))) (by simp; omega))
      refine hW H6 (Dr.refl d6.hs) _ fun v H7 d7 ⟨pb', e7, hb7⟩ => ?_
      subst e7
      have nb : bs.sum ≥ bs.getD kn 0 := getD_le_sum (fun x hx => (bb x hx).1) kn
      refine fin _ _ ⟨pb', bs.take kn ++ [max 0 (min 1000000000 (bs.getD kn 0 + mo))] ++ bs.drop (kn + 1), _, _, rfl, D6.trans d7, ?_, ex_t d7.ex hd6, ?_, ?_⟩
      · have z := hb7
        rw [← List.map_take, ← List.map_drop, Int.toNat_natCast] at z
        simpa using z
      · simp; omega
      · intro x hx
        rcases List.mem_append.mp hx with hx | hx
        · rcases List.mem_append.mp hx with hx | hx
          · have := bb x (List.mem_of_mem_take hx); omega
          · rw [List.mem_singleton.mp hx]; omega
        · have := bb x (List.mem_of_mem_drop hx); omega
    · exact fin _ _ ⟨pb, bs, _, _, rfl, D3.trans d4, ex_t d4.ex hb3, ex_t d4.ex hd3, lb, fun x hx => by have := bb x hx; omega⟩
end Sw
namespace Sw
open PySem PySem.Spec PyProof.Rows L2 Evl
local macro_rules | `(tactic| walk_at "ev") => `(tactic| first
  | exact ev_c
  | exact ev_var rfl
  | ((with_reducible show Ev (tCB rMax2 _) _ _ _); exact ev_maxi (by walk_at "ev") (by walk_at "ev"))
  | ((with_reducible show Ev (tCB rMn _) _ _ _); exact ev_min2 (by walk_at "ev") (by walk_at "ev"))
  | ((with_reducible show Ev (tUn _ _) _ _ _); exact ev_un (by walk_at "ev") ru_neg)
  | ((with_reducible show Ev (tFld _ _ _) _ _ _); exact ev_fldK (by walk_at "ev") (by assumption))
  | ((with_reducible show Ev (tOp (rI0 _) _ _) _ _ _); exact ev_op (by walk_at "ev") (by walk_at "ev") rv_I0)
  | ((with_reducible show Ev (tOp rEq _ _) _ _ _); exact ev_op (by walk_at "ev") (by walk_at "ev") (rv_eq rfl))
  | ((with_reducible show Ev (tOp rNe _ _) _ _ _); exact ev_op (by walk_at "ev") (by walk_at "ev") (rv_ne rfl)))

section
variable {K : PySem.W.Frag} {Z : Ad} {σ : L2.St} {H H' : Hp} {ta tb tc te tx : TE} {x y z v : V} {a b h l : Addr} {xs ys : List V} {A B C D : Int → Prop} {i j : Int} {bs ds : List Int} {life : Int} {k t : Nat}
theorem ev_neNil (ha : EvL ta σ H xs) (hb : EvL tb σ H []) (hx : xs = []) : Ev (tOp (rNeD K) ta tb) σ H (.bl false) := ev_opLL ha hb fun p q H1 hp hq _ => fun H2 e2 Q k => by
  subst hx
  exact ⟨.list [], .list [], .lst (sq_of (e2 _ _ hp)) .nil, .lst (sq_of (e2 _ _ hq)) .nil, by decide, by decide, by
    have : (!PyData.eqv (.list []) (.list [])) = false := by decide
    rw [this]; exact k H2 (Ex.refl _)⟩
theorem spv_Bstock (hB : BakAt K Z H b bs ds life k) (ht : (t : Int) ≤ 1000000000000000000) : SpV (sp_Bstock K Z) [.ref b, .int (t : Int)] H (.int (dayS bs ds (keepL bs life) t)) := fun _ e _ q _ => ⟨b, bs, ds, life, k, t, rfl, ht, hB.mono e, q⟩
theorem spv_Bday {j : Nat} (hB : BakAt K Z H b bs ds life k) (ht : (t : Int) ≤ 1000000000000000000) : SpV (sp_Bday K Z j) [.ref b, .int (t : Int)] H (.int ([solS bs ds (keepL bs life) t, misS bs ds (keepL bs life) t, thrS bs ds (keepL bs life) t].getD j 0)) := fun _ e _ q _ => ⟨b, bs, ds, life, k, t, rfl, ht, hB.mono e, q⟩
theorem spu_Btot (hB : BakAt K Z H b bs ds life k) (ht : (t : Int) ≤ 1000000000000000000) : SpU (sp_Btot K Z) [.ref b, .int (t : Int)] H ((totS bs ds (keepL bs life) t).map V.int) := fun _ e _ q _ => ⟨b, bs, ds, life, k, t, rfl, ht, hB.mono e, q⟩
theorem ew_long {E : XK} (h : Ev ta σ H (.ref b)) (hB : BakAt K Z H b bs ds life k) : EvW K (tProp Z.c_Bakery (sp_Blong K Z) [] E ta) σ H ((longI bs ds (lmOf bs ds (keepL bs life))).map V.int) := fun H1 e Q q =>
  h H1 e _ fun H2 e2 => let ⟨dx, fs, h1⟩ := hB.inst; ⟨b, dx, fs, rfl, e2 _ _ (e _ _ h1), b, bs, ds, life, k, rfl, hB.mono (e.trans e2), fun p H3 e3 h3 => q p H3 (e2.trans e3) h3⟩
theorem ev_ixW (h : EvW K ta σ H xs) (hb : Ev tb σ H (.int i)) (ha : atI xs i = some v) : Ev (tOp (rIxT K) ta tb) σ H v := fun H1 e Q q =>
  h H1 e _ fun p H2 e2 hp => hb H2 (e.trans e2) _ fun H3 e3 => rv_ixT (K := K) (ex_t e3 hp) ha H3 (Ex.refl H3) Q fun H4 e4 => q H4 ((e2.trans e3).trans e4)
theorem ev_callU {sp : Sp} {E : XK} (ha : EvU ta σ H xs) (hb : Ev tb σ H y) (hs : ∀ p H1, Ex H H1 → H1 p = some (.tup xs) → SpV sp [.ref p, y] H1 z) : Ev (tCall sp [] E (tCons ta (tCons tb tNil))) σ H z := fun H1 e Q q =>
  ha H1 e _ fun p H2 _ e2 hp => hb H2 (e.trans e2) _ fun H3 e3 => hs p H3 ((e.trans e2).trans e3) (e3 _ _ hp) H3 (Ex.refl _) Q (fun H4 e4 => q H4 ((e2.trans e3).trans e4)) E
theorem ev_callL {sp : Sp} {E : XK} (ha : EvL ta σ H xs) (hb : Ev tb σ H y) (hs : ∀ p H1, Ex H H1 → H1 p = some (.lst xs) → SpV sp [.ref p, y] H1 z) : Ev (tCall sp [] E (tCons ta (tCons tb tNil))) σ H z := fun H1 e Q q =>
  ha H1 e _ fun p H2 _ e2 hp => hb H2 (e.trans e2) _ fun H3 e3 => hs p H3 ((e.trans e2).trans e3) (e3 _ _ hp) H3 (Ex.refl _) Q (fun H4 e4 => q H4 ((e2.trans e3).trans e4)) E
/-- a bakery, its size, the settled day of another one like it -/
theorem q_bak3 {t t' : TA} {tl : TE} {E E' E'' : XK} {pb pd : Addr} {i1 i2 i3 : Nat} {D : Ends} {tz : TS} (hs : HS H h l) (ht : EvA t σ H [.ref pb, .ref pd, .int life]) (ht' : EvA t' σ H [.ref pb, .ref pd, .int life]) (htl : Ev tl σ H (.ref pb))
    (hb : SqT K (wn H (hl h l)) pb (bs.map V.int)) (hd : SqT K (wn H (hl h l)) pd (ds.map V.int)) (gd : Good bs ds) (l0 : 1 ≤ life) (l1 : life ≤ 30)
    (k : ∀ (b : Addr) (i i2' : Nat) (H' : Hp), Dr h l H H' → BakAt K Z (wn H' (hl h l)) b bs ds life i → SetAt bs ds (keepL bs life) (gainOf bs ds) (firstOf bs ds (keepL bs life)) (fullOf bs ds (keepL bs life)) i2' →
      tz D (((σ.set i1 (some (.ref b))).set i2 (some (.int (bs.length : Int)))).set i3 (some (.int (grw bs ds (keepL bs life) * (bs.length : Int) + (i2' : Int))))) H') :
    tSeq (tAsg (tTup (tCons (tMake Z.c_Bakery (sp_Binit K Z) [] E t) (tCons (tCB (rLenS K) (tCons tl tNil)) (tCons (tProp Z.c_Bakery (sp_Bset K Z) [] E' (tMake Z.c_Bakery (sp_Binit K Z) [] E'' t')) tNil)))) (gTup K 3 (gCons (gName i1) (gCons (gName i2) (gCons (gName i3) gNil))))) tz D σ H := by
  dsimp only [tSeq, tAsg, tTup, tCons, tCB, tNil, tProp, gTup, gCons, gName, gNil]
  refine er_bakery ht hb hd gd l0 l1 H (Ex.refl _) hs.kn _ fun b H3 hb0 e3 ⟨i, hB⟩ => ?_
  refine htl H3 e3 _ fun H4 e4 => ⟨pb, _, rfl, .inr (ex_t (wn_ex.trans (e3.trans e4)) hb), ?_⟩
  refine er_bakery (ht'.mono (e3.trans e4)) (ex_t (wn_mono (e3.trans e4)) hb) (ex_t (wn_mono (e3.trans e4)) hd) gd l0 l1 H4 (Ex.refl _) (hs.mono (e3.trans e4)).kn _ fun b2 H5 hb1 e5 ⟨j2, hB2⟩ => ?_
  obtain ⟨dx2, fs2, hi2⟩ := (hB2.mono wn_ex).inst
  refine ⟨b2, dx2, fs2, rfl, hi2, b2, bs, ds, life, j2, rfl, hB2.mono wn_ex, fun H6 e6 => ?_⟩
  refine ⟨by show 3 ≤ sizeLine; decide, fun r hr => ?_⟩
  refine ⟨r, _, rfl, st_of upd_same, rfl, _, _, rfl, _, _, rfl, _, _, rfl, rfl, ?_⟩
  have e36 := ((e3.trans e4).trans e5).trans e6
  have hlen : ((bs.map V.int).length : Int) = (bs.length : Int) := by rw [List.length_map]
  rw [hlen]
  exact k b i j2 _ ((Dr.of hs e36).trans (Dr.of (hs.mono e36) (Ex.new hr))) (hB.mono ((wn_mono ((e4.trans e5).trans e6)).trans (wn_mono (Ex.new hr)))) hB2.hi
/-- two lists of numbers, joined -/
theorem x_catL {A B : List Int → Prop} (ha : EvX ta σ H h l (LI A)) (hb : EvX tb σ H h l (LI B)) (hz : ∀ as bs, A as → B bs → as.length + bs.length ≤ 100000) : EvX (tOp rCat ta tb) σ H h l (LI fun ns => ∃ as bs, ns = as ++ bs ∧ A as ∧ B bs) := fun H1 d Q q =>
  ha H1 d _ fun _ H2 d2 ⟨p, as, e, hp, hA⟩ => hb H2 (d.trans d2) _ fun _ H3 d3 ⟨r, bs, e', hr, hB⟩ => by
    subst e e'
    have hp3 := wn_ex _ _ (d3.ex _ _ hp)
    refine ⟨p, r, as.map V.int, bs.map V.int, rfl, rfl, hp3, wn_ex _ _ hr, sz_of (by rw [List.length_map, List.length_map]; exact hz as bs hA hB), fun t ht => ?_⟩
    have d4 := Dr.of d3.hs (Ex.new (o := .lst (as.map V.int ++ bs.map V.int)) ht)
    exact q _ _ ((d2.trans d3).trans d4) ⟨t, as ++ bs, rfl, by rw [wn_ni (hl_new (G' := H3) d3.hs ht), upd_same, List.map_append], as, bs, rfl, hA, hB⟩
/-- a list with no draws -/
theorem x_li {ns : List Int} {A : List Int → Prop} (hv : EvL te σ (wn H (hl h l)) (ns.map V.int)) (hA : A ns) : EvX te σ H h l (LI A) := (x_evL hv).imp fun v G ⟨p, e, hp⟩ => ⟨p, ns, e, hp, hA⟩
/-- no item of the list passes the test -/
theorem ev_noneL {tl : TE} {t : TT} {jj : Nat} {vs : List Nat} {p : Addr} {ns : List Int} (hv : Ev tl σ H (.ref p)) (hx : SqL K H p (ns.map V.int)) (hz : ns.length ≤ 40000) (hw : ∀ x, wipe ((wipe σ vs).set jj (some x)) vs = wipe σ vs)
    (ht : ∀ (n : Int) H1, Ex H H1 → n ∈ ns → EvT t ((wipe σ vs).set jj (some (.int n))) H1 false) : Ev (tOp (rNeD K) (tLc (iList K tl) (gName jj) t te vs) (tLst tNil)) σ H (.bl false) :=
  ev_neNil (el_lcL (fun _ => false) (fun _ => .non) hv hx (by rw [List.length_map]; exact hz) hw (fun i x H1 e hi => by
    obtain ⟨rfl, hlt⟩ := at_map hi
    refine ht _ H1 e ?_
    have e2 : ns.getD i 0 = ns[i] := by simp [List.getD, hlt]
    rw [e2]; exact List.getElem_mem hlt) (fun i x H1 e hi hf => nomatch hf)) (el_lst ea_nil (by show 0 ≤ 100000; decide)) (given_none fun _ _ => rfl)
end
variable {P : Program} {w : World} {K : PySem.W.Frag} {mg : Str → Option Value} {base : Heap} {Z : Ad}
def sp_law (K : PySem.W.Frag) : Sp := fun vs H Q _ => ∃ (a : Addr) (ns : List Int), vs = [.ref a] ∧ SqL K H a (ns.map V.int) ∧ ns.length ≤ 63 ∧ ∀ H', Q (.bl true) H'
theorem pw18 : (10 : Int) ^ (18 : Int).toNat = 1000000000000000000 := by decide
theorem pw15 : (10 : Int) ^ (15 : Int).toNat = 1000000000000000 := by decide
theorem pw14 : (10 : Int) ^ (14 : Int).toNat = 100000000000000 := by decide
theorem pw12 : (10 : Int) ^ (12 : Int).toNat = 1000000000000 := by decide
theorem pw17' : (10 : Int) ^ (17 : Int).toNat = 100000000000000000 := by decide
theorem pw9 : (10 : Int) ^ (9 : Int).toNat = 1000000000 := by decide
theorem ev_pow {σ : L2.St} {H : Hp} {n m : Int} (hc : CPow 10 n) (e : (10 : Int) ^ n.toNat = m) : Ev (tOp (rI CPow fun i j => .int (i ^ j.toNat)) (tC (.int 10)) (tC (.int n))) σ H (.int m) := Ev.int_eq (ev_op ev_c ev_c (rv_I hc)) e
end Sw
namespace Sw
open PySem PySem.Spec PyProof.Rows L2 Evl
local macro_rules | `(tactic| walk_at "ev") => `(tactic| first
  | exact ev_c
  | exact ev_var rfl
  | ((with_reducible show Ev (tCB rMax2 _) _ _ _); exact ev_maxi (by walk_at "ev") (by walk_at "ev"))
  | ((with_reducible show Ev (tCB rMn _) _ _ _); exact ev_min2 (by walk_at "ev") (by walk_at "ev"))
  | ((with_reducible show Ev (tUn _ _) _ _ _); exact ev_un (by walk_at "ev") ru_neg)
  | ((with_reducible show Ev (tFld _ _ _) _ _ _); exact ev_fldK (by walk_at "ev") (by assumption))
  | ((with_reducible show Ev (tOp (rI0 _) _ _) _ _ _); exact ev_op (by walk_at "ev") (by walk_at "ev") rv_I0)
  | ((with_reducible show Ev (tOp rEq _ _) _ _ _); exact ev_op (by walk_at "ev") (by walk_at "ev") (rv_eq rfl))
  | ((with_reducible show Ev (tOp rNe _ _) _ _ _); exact ev_op (by walk_at "ev") (by walk_at "ev") (rv_ne rfl)))

/-! ### other lives and bakings, and the choices -/
section
variable {bs ds ks ks' : List Int}
theorem dayS_mono {m : Int} {bs' : List Int} (h : CoM bs ds ks) (hl : bs'.length = bs.length) (hm : 0 ≤ m) (hb : ∀ i, i < bs.length → bs'.getD i 0 = bs.getD i 0 + m) (hk : ∀ i, i < bs.length → ks.getD i 0 ≤ ks'.getD i 0) (t : Nat) : dayS bs ds ks t ≤ dayS bs' ds ks' t := by
  induction t with
  | zero => exact Int.le_refl _
  | succ t ih =>
    show stp _ _ _ _ ≤ stp _ _ _ _
    rw [hl]
    have hlt := Nat.mod_lt t h.gd.n0
    have q1 := hb _ hlt
    have q2 := hk _ hlt
    unfold stp; omega
theorem lm_mono {m : Int} {bs' : List Int} (h : CoM bs ds ks) (h' : CoM bs' ds ks') (hl : bs'.length = bs.length) (hm : 0 ≤ m) (hb : ∀ i, i < bs.length → bs'.getD i 0 = bs.getD i 0 + m) (hk : ∀ i, i < bs.length → ks.getD i 0 ≤ ks'.getD i 0) : (lmOf bs' ds ks').sum ≤ (lmOf bs ds ks).sum := by
  rw [lm_sum h, lm_sum h', hl]
  have hp : ∀ j, misS bs' ds ks' j ≤ misS bs ds ks j := fun j => by
    have z := dayS_mono h hl hm hb hk j
    have q := hb _ (Nat.mod_lt j h.gd.n0)
    unfold misS dm bk
    rw [hl]
    omega
  have g : ∀ n, psum (fun j => misS bs' ds ks' (bs.length + j)) n ≤ psum (fun j => misS bs ds ks (bs.length + j)) n := by
    intro n
    induction n with
    | zero => exact Int.le_refl _
    | succ n ih =>
      have z := hp (bs.length + n)
      exact Int.add_le_add ih z
  exact g bs.length
theorem keepAt_life {life life' : Int} {i : Nat} (hb : ∀ x ∈ bs, 0 ≤ x ∧ x ≤ 1000000000) (h : life ≤ life') : keepAt bs life i ≤ keepAt bs life' i := by
  unfold keepAt
  obtain ⟨u, hu⟩ : ∃ u, (life' - 1).toNat = (life - 1).toNat + u := ⟨(life' - 1).toNat - (life - 1).toNat, by omega⟩
  rw [hu]
  generalize (life - 1).toNat = n
  clear hu
  induction u with
  | zero => exact Int.le_refl _
  | succ u ih =>
    rw [← Nat.add_assoc, List.range_succ, List.map_append, List.sum_append]
    have z := (getD_mem0 (i := ((((i : Int) - ((n + u : Nat) : Int)) % (bs.length : Int)).toNat)) hb).1
    simp at z ih ⊢
    omega
theorem keepL_get {life : Int} {i : Nat} (hi : i < bs.length) : (keepL bs life).getD i 0 = keepAt bs life i := by
  unfold keepL
  simp [List.getD, List.getElem?_range hi]
theorem map_getD {m : Int} {i : Nat} (hi : i < bs.length) : (bs.map (· + m)).getD i 0 = bs.getD i 0 + m := by simp [List.getD, hi]
theorem keepAt_more {life m : Int} {i : Nat} (h0 : 0 < bs.length) (hm : 0 ≤ m) : keepAt bs life i ≤ keepAt (bs.map (· + m)) life i := by
  unfold keepAt
  rw [List.length_map]
  generalize (life - 1).toNat = n
  induction n with
  | zero => exact Int.le_refl _
  | succ n ih =>
    rw [List.range_succ, List.map_append, List.sum_append, List.map_append, List.sum_append]
    have hlt : (((i : Int) - (n : Int)) % (bs.length : Int)).toNat < bs.length := by
      have := Int.emod_lt_of_pos ((i : Int) - (n : Int)) (show (0 : Int) < (bs.length : Int) by omega)
      have := Int.emod_nonneg ((i : Int) - (n : Int)) (show (bs.length : Int) ≠ 0 by omega)
      omega
    have z := map_getD (m := m) hlt
    have e1 : (List.map (fun (age : Nat) => bs.getD (((i : Int) - (age : Int)) % (bs.length : Int)).toNat 0) [n]).sum = bs.getD (((i : Int) - (n : Int)) % (bs.length : Int)).toNat 0 := by simp
    have e2 : (List.map (fun (age : Nat) => (bs.map (· + m)).getD (((i : Int) - (age : Int)) % (bs.length : Int)).toNat 0) [n]).sum = (bs.map (· + m)).getD (((i : Int) - (n : Int)) % (bs.length : Int)).toNat 0 := by simp
    rw [e1, e2, z]
    omega
/-- how many are missed per round in the long run -/
def missOf (bs ds : List Int) (life : Int) : Int := (lmOf bs ds (keepL bs life)).sum
theorem com_of (gd : Good bs ds) {life : Int} : CoM bs ds (keepL bs life) := ⟨gd, keepL_len, fun _ => keepL_nn gd.b0⟩
theorem missOf_life (gd : Good bs ds) {life life' : Int} (h : life ≤ life') : missOf bs ds life' ≤ missOf bs ds life :=
  lm_mono (m := 0) (com_of gd) (com_of gd) rfl (Int.le_refl _) (fun i _ => by omega) fun i hi => by rw [keepL_get hi, keepL_get hi]; exact keepAt_life gd.b0 h
theorem missOf_more (gd : Good bs ds) {m : Int} (hm : 0 ≤ m) (gd' : Good (bs.map (· + m)) ds) {life : Int} : missOf (bs.map (· + m)) ds life ≤ missOf bs ds life :=
  lm_mono (m := m) (com_of gd) (com_of gd') (List.length_map ..) hm (fun i hi => map_getD hi) fun i hi => by
    rw [keepL_get hi, keepL_get (by rw [List.length_map]; exact hi)]; exact keepAt_more gd.n0 hm
theorem more_more {m m' : Int} : (bs.map (· + m)).map (· + (m' - m)) = bs.map (· + m') := by
  rw [List.map_map]
  congr 1
  funext x
  show x + m + (m' - m) = x + m'
  omega
theorem missOf_anti {m m' : Int} (h : m ≤ m') (gd : Good (bs.map (· + m)) ds) (gd' : Good (bs.map (· + m')) ds) {life : Int} : missOf (bs.map (· + m')) ds life ≤ missOf (bs.map (· + m)) ds life := by
  have z := missOf_more gd (m := m' - m) (by omega) (by rw [more_more]; exact gd') (life := life)
  rwa [more_more] at z
theorem good_more (gd : Good bs ds) {m top : Int} (h0 : 0 ≤ m) (ht : ∀ x ∈ bs, x ≤ top) (h1 : m ≤ 1000000000 - top) : Good (bs.map (· + m)) ds :=
  ⟨by rw [List.length_map]; exact gd.n0, by rw [List.length_map]; exact gd.n1, by rw [List.length_map]; exact gd.ld, fun x hx => by
    obtain ⟨y, hy, rfl⟩ := List.mem_map.mp hx
    have := gd.b0 y hy
    have := ht y hy
    omega, gd.d0⟩
end
section
variable {K : PySem.W.Frag} {Z : Ad} {σ : L2.St} {H H' : Hp} {ta tb te tx : TE} {x y z v : V} {a b : Addr} {bs ds : List Int} {life : Int} {i : Nat}
/-- what is handed back is an object with P -/
def EvO (te : TE) (σ : L2.St) (H : Hp) (P : Addr → Hp → Prop) : Prop := ∀ H1, Ex H H1 → ∀ Q : VK, (∀ p H2, Ex H1 H2 → P p H2 → Q (.ref p) H2) → te σ H1 Q
def IsBak (K : PySem.W.Frag) (Z : Ad) (bs ds : List Int) (life : Int) (p : Addr) (H : Hp) : Prop := ∃ i, BakAt K Z H p bs ds life i
theorem ew_longO {E : XK} (h : EvO ta σ H (IsBak K Z bs ds life)) : EvW K (tProp Z.c_Bakery (sp_Blong K Z) [] E ta) σ H ((longI bs ds (lmOf bs ds (keepL bs life))).map V.int) := fun H1 e Q q =>
  h H1 e _ fun p H2 e2 ⟨i, hB⟩ => let ⟨dx, fs, h1⟩ := hB.inst; ⟨p, dx, fs, rfl, h1, p, bs, ds, life, i, rfl, hB, fun r H3 e3 h3 => q r H3 (e2.trans e3) h3⟩
theorem ev_missO {E : XK} (h : EvO ta σ H (IsBak K Z bs ds life)) (hb : Ev tb σ H (.int 1)) : Ev (tOp (rIxT K) (tProp Z.c_Bakery (sp_Blong K Z) [] E ta) tb) σ H (.int (missOf bs ds life)) := fun H1 e Q q =>
  ew_longO h H1 e _ fun p H2 e2 hp => hb H2 (e.trans e2) _ fun H3 e3 => rv_ixT (K := K) (v := .int (missOf bs ds life)) (ex_t e3 hp) rfl H3 (Ex.refl H3) Q fun H4 e4 => q H4 ((e2.trans e3).trans e4)
theorem eo_meth {sp : Sp} {C : Addr} {m : Str} {dvs vs : List V} {E : XK} {t : TA} {Pr : Addr → Hp → Prop} (h : Ev ta σ H (.ref a)) (nf : NoF H a C m) (hv : EvA t σ H vs) (hs : ∀ H1, Ex H H1 → ∀ Q : VK, (∀ p H2, Ex H1 H2 → Pr p H2 → Q (.ref p) H2) → ∀ E : XK, sp (.ref a :: (vs ++ dvs)) H1 Q E) : EvO (tMeth C m sp dvs E ta t) σ H Pr := fun H1 e Q q =>
  h H1 e _ fun H2 e2 => let ⟨dx, fs, h1, h2⟩ := nf; ⟨a, dx, fs, rfl, e2 _ _ (e _ _ h1), h2, hv H2 (e.trans e2) _ fun H3 e3 => hs H3 ((e.trans e2).trans e3) Q (fun p H4 e4 h4 => q p H4 ((e2.trans e3).trans e4) h4) E⟩
theorem ev_con {C : Addr} {f : Str} {v : V} {u : Value} (h : Ev ta σ H (.ref a)) (nf : NoF H a C f) (c : Cls K C) (k : Con K C f v u) : Ev (tCon K ta f) σ H v := fun H1 e Q q =>
  h H1 e _ fun H2 e2 => let ⟨dx, fs, h1, h2⟩ := nf; ⟨a, C, dx, fs, v, u, rfl, e2 _ _ (e _ _ h1), c, k, h2, q H2 e2⟩
end
theorem wn_no {H : Hp} : wn H (fun _ => False) = H := by funext b; exact wn_ni fun z => z
/-- return Bakery(tuple([bake + m for bake in ..]), .., ..) -/
theorem q_more {K : PySem.W.Frag} {Z : Ad} {σ : L2.St} {H : Hp} {tl te tdd tll : TE} {tb td : Addr} {jj : Nat} {vs : List Nat} {E : XK} {bs ds : List Int} {life m : Int} {Q : VK} {nx : L2.St → Hp → Prop} (hl : Ev tl σ H (.ref tb)) (hb : SqT K H tb (bs.map V.int)) (hn : bs.length ≤ 24) (hw : ∀ x, wipe ((wipe σ vs).set jj (some x)) vs = wipe σ vs)
    (he : ∀ (i : Nat) (x : V) H1, Ex H H1 → (bs.map V.int)[i]? = some x → Ev te ((wipe σ vs).set jj (some x)) H1 (.int (bs.getD i 0 + m))) (hd : ∀ G, Ex H G → Ev tdd σ G (.ref td)) (hds : SqT K H td (ds.map V.int)) (hll : ∀ G, Ex H G → Ev tll σ G (.int life)) (gd : Good (bs.map (· + m)) ds) (l0 : 1 ≤ life) (l1 : life ≤ 30)
    (k : ∀ p H', Ex H H' → IsBak K Z (bs.map (· + m)) ds life p H' → Q (.ref p) H') :
    tRet (tMake Z.c_Bakery (sp_Binit K Z) [] E (tCons (tCB (rTupS K) (tCons (tLc (iTup K tl) (gName jj) tYes te vs) tNil)) (tCons tdd (tCons tll tNil)))) { nx := nx, rt := Q } σ H := by
  have hL : EvL (tLc (iTup K tl) (gName jj) tYes te vs) σ H ((bs.map (· + m)).map V.int) := fun H0 e0 Q' q => hl H0 e0 _ fun H1 e1 => ⟨tb, rfl, ⟨bs.map V.int, ex_t (e0.trans e1) hb⟩, fun Dl hD => by
    have eq0 : (bs.map (· + m)).map V.int = given bs.length (fun _ => true) (fun i => .int (bs.getD i 0 + m)) := by
      rw [given_all]
      apply List.ext_getElem
      · simp
      · intro i h1 h2
        simp at h1
        simp [List.getD, h1]
    rw [eq0] at q
    refine lc_it (walk_tup (xs := bs.map V.int)) (Cw H1 (fun _ => true) (fun i => .int (bs.getD i 0 + m)) Dl) ⟨hD, Ex.new hD, upd_same⟩ (fun i H' _ p => ex_t ((e0.trans e1).trans p.2.1) hb) (fun i w H' H2 hi p y => ?_) (fun H' p => q Dl H' (fresh_back e1 p.1) (e1.trans p.2.1) (by rw [← List.length_map (f := V.int)]; exact p.2.2))
    obtain ⟨rfl, hx⟩ := y
    refine ⟨hw _, ?_⟩
    rw [List.length_map] at hi
    exact cw_turn p (by omega) et_yes (fun _ => he i w H1 (e0.trans e1) hx)⟩
  dsimp only [tRet, tMake, tCons, tNil]
  refine eu_tupL (K := K) hL H (Ex.refl _) _ fun p H1 hp e1 h1 => hd H1 e1 H1 (Ex.refl _) _ fun H2 e2 => hll H2 (e1.trans e2) H2 (Ex.refl _) _ fun H3 e3 => ?_
  have e13 := (e1.trans e2).trans e3
  have hX := er_bakery (K := K) (Z := Z) (M := fun _ => False) (H := H3) (σ := [some (.ref p), some (.ref td), some (.int life)]) (E := E) (t := tCons (tVar 0) (tCons (tVar 1) (tCons (tVar 2) tNil))) (bs := bs.map (· + m)) (ds := ds) (ea_cons (ev_var rfl) (ea_cons (ev_var rfl) (ea_cons (ev_var rfl) ea_nil))) (by rw [wn_no]; exact st_of (e3 _ _ (e2 _ _ h1))) (by rw [wn_no]; exact ex_t e13 hds) gd l0 l1
  have z := hX H3 (Ex.refl _) (fun _ z => z.elim) Q fun p H4 _ e4 hP => k p H4 (e13.trans e4) (by rw [wn_no] at hP; exact hP)
  dsimp only [tMake, tCons, tNil] at z
  obtain ⟨v1, r1, v2, r2, v3, r3, z⟩ := z
  cases r1; cases r2; cases r3
  exact z
variable {P : Program} {w : World} {K : PySem.W.Frag} {mg : Str → Option Value} {base : Heap} {Z : Ad}
def sp_withlife (K : PySem.W.Frag) (Z : Ad) : Sp := fun vs H Q _ => ∃ (b : Addr) (bs ds : List Int) (life life' : Int) (i : Nat), vs = [.ref b, .int life'] ∧ BakAt K Z H b bs ds life i ∧ 1 ≤ life' ∧ life' ≤ 30 ∧ ∀ p H', Ex H H' → IsBak K Z bs ds life' p H' → Q (.ref p) H'
theorem ok_Bakery_with_life (T : Txt K mg Z) : FnOk P w K mg base CX0 8 Z.f_Bakery_with_life Z.d_Bakery_with_life p_Bakery_with_life (sp_withlife K Z) := by
  refine T.F_Bakery_with_life.ok sc_Bakery_with_life (fun vs H Q E h => ?_) (fun cdv Ar outer s H vs Q E hr h => ?_)
  · obtain ⟨b, bs, ds, life, life', i, rfl, _⟩ := h
    rfl
  · obtain ⟨b, bs, ds, life, life', i, rfl, hB, l0, l1, k⟩ := h
    obtain ⟨tb, fb, hb⟩ := hB.fb
    obtain ⟨td, fd, hd⟩ := hB.fd
    refine ⟨_, (pss_one (ps_ret (pe_make T.mk_Bakery (ok_Bakery___init__ T) (hr.mono (by decide)) (by rfl) T.g_Bakery T.b_Bakery___init__ .nil pass0 (pa_cons (pe_fldK K rfl (pv 0) rfl) (pa_cons (pe_fldK K rfl (pv 0) rfl) (pa_cons (pv 1) pa_nil)))))), ?_⟩
    have hX := er_bakery (K := K) (Z := Z) (M := fun _ => False) (H := H) (σ := [some (.ref b), some (.int life')]) (E := E0) (t := tCons (tFld K (tVar 0) "_bakes") (tCons (tFld K (tVar 0) "_demands") (tCons (tVar 1) tNil))) (ea_cons (by walk_at "ev") (ea_cons (by walk_at "ev") (ea_cons (ev_var rfl) ea_nil))) (by rw [wn_no]; exact hb) (by rw [wn_no]; exact hd) hB.gd l0 l1
    exact hX H (Ex.refl _) (fun _ z => z.elim) _ fun p H2 _ e2 hP => k p H2 e2 (by rw [wn_no] at hP; exact hP)
def sp_more (K : PySem.W.Frag) (Z : Ad) : Sp := fun vs H Q _ => ∃ (b : Addr) (bs ds : List Int) (life m : Int) (i : Nat), vs = [.ref b, .int m] ∧ BakAt K Z H b bs ds life i ∧ Good (bs.map (· + m)) ds ∧ ∀ p H', Ex H H' → IsBak K Z (bs.map (· + m)) ds life p H' → Q (.ref p) H'
theorem ok_Bakery_baking_more (T : Txt K mg Z) : FnOk P w K mg base CX0 8 Z.f_Bakery_baking_more Z.d_Bakery_baking_more p_Bakery_baking_more (sp_more K Z) := by
  refine T.F_Bakery_baking_more.ok sc_Bakery_baking_more (fun vs H Q E h => ?_) (fun cdv Ar outer s H vs Q E hr h => ?_)
  · obtain ⟨b, bs, ds, life, m, i, rfl, _⟩ := h
    rfl
  · obtain ⟨b, bs, ds, life, m, i, rfl, hB, gd, k⟩ := h
    obtain ⟨tb, fb, hb⟩ := hB.fb
    have hn := hB.gd.n1
    obtain ⟨td, fd, hd⟩ := hB.fd
    have fl := hB.fl
    refine ⟨_, (pss_one (ps_ret (pe_make T.mk_Bakery (ok_Bakery___init__ T) (hr.mono (by decide)) (by rfl) T.g_Bakery T.b_Bakery___init__ .nil pass0 (pa_cons (pe_callTy (r := rTupS K) (call_tuple_of) (by rfl) T.b_tuple boot_tuple (pa_cons (pe_lc (own := [("bake", 2)]) rfl sc_Bakery_baking_more.nd (pi_tupK K rfl (pe_fldK K rfl (pv 0) rfl)) (blkOk_by (own := [("bake", 2)]) (N := n_Bakery_baking_more) (sc := defScope s_Bakery_baking_more) (scope := { kind := PySem.ScopeKind.function, names := [ (PySem.Str.ofString ".0", PySem.NameKind.local), (PySem.Str.ofString "bake", PySem.NameKind.local), (PySem.Str.ofString "count", PySem.NameKind.free)], isGenerator := false, isCoroutine := false, more := [] : PySem.Scope }) (by decide +kernel)) (fun _ _ _ _ _ => (pg_name (i := 2) sc_Bakery_baking_more.nd rfl (Or.inl rfl))) (fun _ _ _ _ _ => pts_nil) (fun _ _ _ _ _ => (pe_op op_add (pv 2) (pv 1)))) pa_nil)) (pa_cons (pe_fldK K rfl (pv 0) rfl) (pa_cons (pe_fldK K rfl (pv 0) rfl) pa_nil)))))), ?_⟩
    refine q_more (bs := bs) (ds := ds) (life := life) (m := m) (tb := tb) (ev_fldK (ev_var rfl) fb) hb hn (fun _ => rfl) (fun j x G e hx => ?_) (fun G e => ev_fldK (ev_var rfl) (fd.mono e)) hd (fun G e => ev_fldK (ev_var rfl) (fl.mono e)) gd hB.l0 hB.l1 k
    obtain ⟨rfl, hj⟩ := at_map hx
    exact ev_is (ev_op (ev_var rfl) (ev_var rfl) rv_I0) rfl
end Sw
namespace Sw
open PySem PySem.Spec PyProof.Rows L2 Evl
local macro_rules | `(tactic| walk_at "ev") => `(tactic| first
  | exact ev_c
  | exact ev_var rfl
  | ((with_reducible show Ev (tCB rMax2 _) _ _ _); exact ev_maxi (by walk_at "ev") (by walk_at "ev"))
  | ((with_reducible show Ev (tCB rMn _) _ _ _); exact ev_min2 (by walk_at "ev") (by walk_at "ev"))
  | ((with_reducible show Ev (tUn _ _) _ _ _); exact ev_un (by walk_at "ev") ru_neg)
  | ((with_reducible show Ev (tFld _ _ _) _ _ _); exact ev_fldK (by walk_at "ev") (by assumption))
  | ((with_reducible show Ev (tOp (rI0 _) _ _) _ _ _); exact ev_op (by walk_at "ev") (by walk_at "ev") rv_I0)
  | ((with_reducible show Ev (tOp rEq _ _) _ _ _); exact ev_op (by walk_at "ev") (by walk_at "ev") (rv_eq rfl))
  | ((with_reducible show Ev (tOp rNe _ _) _ _ _); exact ev_op (by walk_at "ev") (by walk_at "ev") (rv_ne rfl)))

/-! ### least_life, least_baking -/
section
variable {K : PySem.W.Frag} {Z : Ad} {σ : L2.St} {H H' : Hp} {ta tb te tx : TE} {x y z v : V} {a b : Addr} {bs ds ns : List Int} {life : Int} {i : Nat}
theorem exists_top : ∀ {xs : List Int}, 0 < xs.length → ∃ t, t ∈ xs ∧ ∀ y ∈ xs, y ≤ t
  | [], h => absurd h (by decide)
  | [x], _ => ⟨x, by simp, by simp⟩
  | x :: y :: r, _ => by
    obtain ⟨t, ht, hm⟩ := exists_top (xs := y :: r) (by simp)
    rcases Int.le_total x t with z | z
    · exact ⟨t, List.mem_cons_of_mem _ ht, fun u hu => by rcases List.mem_cons.mp hu with e | e; omega; exact hm u e⟩
    · exact ⟨x, List.mem_cons_self, fun u hu => by rcases List.mem_cons.mp hu with e | e; omega; have := hm u e; omega⟩
theorem ev_maxW {top : Int} (h : EvW K ta σ H (ns.map V.int)) (h0 : top ∈ ns) (h1 : ∀ y ∈ ns, y ≤ top) : Ev (tCB (rMaxT K) (tCons ta tNil)) σ H (.int top) := fun H1 e Q q =>
  h H1 e _ fun p H2 e2 h2 => ⟨p, ns, rfl, h2, List.length_pos_of_mem h0, fun m hm hle => by
    have e : m = top := Int.le_antisymm (h1 m hm) (hle top h0)
    rw [e]; exact q H2 e2⟩
theorem eo_life {E : XK} {life' : Int} (h : Ev ta σ H (.ref b)) (hB : BakAt K Z H b bs ds life i) (hv : Ev tb σ H (.int life')) (l0 : 1 ≤ life') (l1 : life' ≤ 30) : EvO (tMeth Z.c_Bakery "with_life" (sp_withlife K Z) [] E ta (tCons tb tNil)) σ H (IsBak K Z bs ds life') :=
  eo_meth h (hB.nf _ (by decide)) (ea_cons hv ea_nil) fun _ e _ q _ => ⟨b, bs, ds, life, life', i, rfl, hB.mono e, l0, l1, q⟩
theorem eo_more {E : XK} {m : Int} (h : Ev ta σ H (.ref b)) (hB : BakAt K Z H b bs ds life i) (hv : Ev tb σ H (.int m)) (gd : Good (bs.map (· + m)) ds) : EvO (tMeth Z.c_Bakery "baking_more" (sp_more K Z) [] E ta (tCons tb tNil)) σ H (IsBak K Z (bs.map (· + m)) ds life) :=
  eo_meth h (hB.nf _ (by decide)) (ea_cons hv ea_nil) fun _ e _ q _ => ⟨b, bs, ds, life, m, i, rfl, hB.mono e, gd, q⟩
end
def LifeV (bs ds : List Int) (missed : Int) (v : V) : Prop := (∃ k : Nat, k < 30 ∧ v = .int (1 + (k : Int)) ∧ missOf bs ds (1 + (k : Int)) ≤ missed ∧ ∀ j : Nat, j < k → missed < missOf bs ds (1 + (j : Int))) ∨ (v = .non ∧ ∀ j : Nat, j < 30 → missed < missOf bs ds (1 + (j : Int)))
def BakeV (bs ds : List Int) (life missed : Int) (v : V) : Prop := ∃ top, top ∈ bs ∧ (∀ y ∈ bs, y ≤ top) ∧ ((v = .non ∧ missed < missOf (bs.map (· + (1000000000 - top))) ds life) ∨
  ∃ m : Int, v = .int m ∧ 0 ≤ m ∧ m ≤ 1000000000 - top ∧ missOf (bs.map (· + m)) ds life ≤ missed ∧ (0 < m → missed < missOf (bs.map (· + (m - 1))) ds life))
def sp_choice (K : PySem.W.Frag) (Z : Ad) (A : List Int → List Int → Int → Int → V → Prop) : Sp := fun vs H Q _ => ∃ (b : Addr) (bs ds : List Int) (life missed : Int) (i : Nat), vs = [.ref b, .int missed] ∧ BakAt K Z H b bs ds life i ∧ 0 ≤ missed ∧ missed ≤ 1000000000000 ∧ ∀ v H', Ex H H' → A bs ds life missed v → Q v H'
variable {P : Program} {w : World} {K : PySem.W.Frag} {mg : Str → Option Value} {base : Heap} {Z : Ad}
theorem ok_least_life (T : Txt K mg Z) : FnOk P w K mg base CX0 9 Z.f_least_life Z.d_least_life p_least_life (sp_choice K Z fun bs ds _ missed v => LifeV bs ds missed v) := by
  refine T.F_least_life.ok sc_least_life (fun vs H Q E h => ?_) (fun cdv Ar outer s H vs Q E hr h => ?_)
  · obtain ⟨b, bs, ds, life, missed, i, rfl, _⟩ := h
    rfl
  · obtain ⟨b, bs, ds, life, missed, i, rfl, hB, m0, m1, k⟩ := h
    obtain ⟨u30, cn⟩ := T.cn_Bakery_MAX_LIFE
    refine ⟨_, (pss_cons (ps_expr (pe_call (ok_check_number T) (hr.mono (by decide)) (by rfl) T.g_check_number T.F_check_number.kp T.b_check_number .nil pass0 (pa_cons (pv 1) (pa_cons pe_int (pa_cons (pe_glob (v := .int 1000000000000) (by rfl) T.g_MOST_MISSED ⟨_, rfl⟩) pa_nil)))))
      (pss_cons (ps_for PassesOwn.never rfl (pi_range2 (by rfl) T.b_range (pa_cons pe_int (pa_cons (pe_op op_add (pe_con (pv 0) rfl) pe_int) pa_nil))) (pg_name (i := 2) sc_least_life.nd rfl (Or.inl rfl)) (pss_one (ps_if (pt_cmpR op_le (pe_ix (r := rIxT K) ix_tup (pe_prop (pe_meth (pv 0) T.cl_Bakery T.m_Bakery_with_life (ok_Bakery_with_life T) (hr.mono (by decide)) T.b_Bakery_with_life .nil pass0 (pa_cons (pv 2) pa_nil)) T.cl_Bakery T.pp_Bakery_long_run (ok_Bakery_long_run T) (hr.mono (by decide)) T.b_Bakery_long_run .nil pass0 rfl) (pe_glob (v := .int 1) (by rfl) T.g_MISSED ⟨_, rfl⟩) (fun _ _ => rfl)) (pv 1) (nomark _)) (pss_one (ps_ret (pv 2))) pss_nil)))
      (pss_one (ps_ret pe_non)))), ?_⟩
    refine q_drop (ev_call (vs := [.int missed, .int 0, .int 1000000000000]) (ea_cons (ev_var rfl) (ea_cons ev_c (ea_cons ev_c ea_nil))) (spv_num m0 m1)) fun H1 e1 => ?_
    refine q_forR2 (lo := 1) (n := 31) (ea_cons ev_c (ea_cons (Ev.int_eq (ev_op (ev_con (ev_var rfl) ((hB.mono e1).nf _ (by decide)) T.cl_Bakery cn) ev_c rv_I0) (by decide)) ea_nil)) ⟨by decide, by decide, by decide, by decide⟩
      (fun j σ' H' => (∃ x2, σ' = [some (.ref b), some (.int missed), x2]) ∧ Ex H H' ∧ ∀ t : Nat, t < j → missed < missOf bs ds (1 + (t : Int))) (fun H2 e2 => ⟨⟨_, rfl⟩, e1.trans e2, fun t ht => absurd ht (Nat.not_lt_zero _)⟩) ?_ ?_
    · rintro j σ' H' hj ⟨⟨x2, rfl⟩, e, hlt⟩
      refine s_when (et_test (ev_op (ev_missO (eo_life (ev_var rfl) (hB.mono e) (ev_var rfl) (by omega) (by omega)) ev_c) (ev_var rfl) rv_I0)) (fun hb H2 e2 => ?_) (fun hb H2 e2 => ?_)
      · exact s_ret (ev_var rfl) fun H3 e3 => k _ H3 ((e.trans e2).trans e3) (.inl ⟨j, by omega, rfl, by simpa using hb, hlt⟩)
      · refine ⟨⟨_, rfl⟩, e.trans e2, fun t ht => ?_⟩
        rcases Nat.lt_or_ge t j with z | z
        · exact hlt t z
        · have : t = j := by omega
          subst this
          simpa using hb
    · rintro σ' H' ⟨⟨x2, rfl⟩, e, hlt⟩
      exact s_ret ev_c fun H3 e3 => k _ H3 (e.trans e3) (.inr ⟨rfl, fun t ht => hlt t (by simpa using ht)⟩)
theorem ok_least_baking (T : Txt K mg Z) : FnOk P w K mg base CX0 9 Z.f_least_baking Z.d_least_baking p_least_baking (sp_choice K Z BakeV) := by
  refine T.F_least_baking.ok sc_least_baking (fun vs H Q E h => ?_) (fun cdv Ar outer s H vs Q E hr h => ?_)
  · obtain ⟨b, bs, ds, life, missed, i, rfl, _⟩ := h
    rfl
  · obtain ⟨b, bs, ds, life, missed, i, rfl, hB, m0, m1, k⟩ := h
    obtain ⟨top, ht, htm⟩ := exists_top hB.gd.n0
    have gd := fun {m : Int} (h0 : 0 ≤ m) (h1 : m ≤ 1000000000 - top) => good_more hB.gd h0 htm h1
    have hT := hB.gd.b0 top ht
    refine ⟨_, (pss_cons (ps_expr (pe_call (ok_check_number T) (hr.mono (by decide)) (by rfl) T.g_check_number T.F_check_number.kp T.b_check_number .nil pass0 (pa_cons (pv 1) (pa_cons pe_int (pa_cons (pe_glob (v := .int 1000000000000) (by rfl) T.g_MOST_MISSED ⟨_, rfl⟩) pa_nil)))))
      (pss_cons (ps_set (i := 2) sc_least_baking.nd rfl (Or.inl rfl) pe_int)
      (pss_cons (ps_set (i := 3) sc_least_baking.nd rfl (Or.inl rfl) (pe_op op_sub (pe_glob (v := .int 1000000000) (by rfl) T.g_MOST_LOAVES ⟨_, rfl⟩) (pe_callB (r := rMaxT K) (cr_maxT rfl) (by rfl) T.b_max boot_max (pa_cons (pe_prop (pv 0) T.cl_Bakery T.pp_Bakery_bakes (ok_Bakery_bakes T) (hr.mono (by decide)) T.b_Bakery_bakes .nil pass0 rfl) pa_nil))))
      (pss_cons (ps_if (pt_cmpR op_gt (pe_ix (r := rIxT K) ix_tup (pe_prop (pe_meth (pv 0) T.cl_Bakery T.m_Bakery_baking_more (ok_Bakery_baking_more T) (hr.mono (by decide)) T.b_Bakery_baking_more .nil pass0 (pa_cons (pv 3) pa_nil)) T.cl_Bakery T.pp_Bakery_long_run (ok_Bakery_long_run T) (hr.mono (by decide)) T.b_Bakery_long_run .nil pass0 rfl) (pe_glob (v := .int 1) (by rfl) T.g_MISSED ⟨_, rfl⟩) (fun _ _ => rfl)) (pv 1) (nomark _)) (pss_one (ps_ret pe_non)) pss_nil)
      (pss_cons (ps_while PassesOwn.never (pt_cmpR op_lt (pv 2) (pv 3) (nomark _)) (pss_cons (ps_set (i := 4) sc_least_baking.nd rfl (Or.inl rfl) (pe_op op_fdivW (pe_op op_add (pv 2) (pv 3)) pe_int))
      (pss_one (ps_if (pt_cmpR op_le (pe_ix (r := rIxT K) ix_tup (pe_prop (pe_meth (pv 0) T.cl_Bakery T.m_Bakery_baking_more (ok_Bakery_baking_more T) (hr.mono (by decide)) T.b_Bakery_baking_more .nil pass0 (pa_cons (pv 4) pa_nil)) T.cl_Bakery T.pp_Bakery_long_run (ok_Bakery_long_run T) (hr.mono (by decide)) T.b_Bakery_long_run .nil pass0 rfl) (pe_glob (v := .int 1) (by rfl) T.g_MISSED ⟨_, rfl⟩) (fun _ _ => rfl)) (pv 1) (nomark _)) (pss_one (ps_set (i := 3) sc_least_baking.nd rfl (Or.inl rfl) (pv 4))) (pss_one (ps_set (i := 2) sc_least_baking.nd rfl (Or.inl rfl) (pe_op op_add (pv 4) pe_int)))))))
      (pss_one (ps_ret (pv 2)))))))), ?_⟩
    refine q_drop (ev_call (vs := [.int missed, .int 0, .int 1000000000000]) (ea_cons (ev_var rfl) (ea_cons ev_c (ea_cons ev_c ea_nil))) (spv_num m0 m1)) fun H1 e1 => ?_
    refine q_asg ev_c fun H2 e2 => ?_
    refine q_asg (ev_op ev_c (ev_maxW (ew_bakes (ev_var rfl) (hB.mono (e1.trans e2))) ht htm) rv_I0) fun H3 e3 => ?_
    have e13 := (e1.trans e2).trans e3
    refine q_when (et_test (ev_op (ev_missO (eo_more (ev_var rfl) (hB.mono e13) (ev_var rfl) (gd (by omega) (by omega))) ev_c) (ev_var rfl) rv_I0)) (fun hb H4 e4 => ?_) (fun hb H4 e4 => ?_)
    · exact s_ret ev_c fun H5 e5 => k _ H5 ((e13.trans e4).trans e5) ⟨top, ht, htm, .inl ⟨rfl, by simpa using hb⟩⟩
    have hb' : missOf (bs.map (· + (1000000000 - top))) ds life ≤ missed := by simpa using hb
    refine q_while (fun n σ' H' => ∃ lo hi : Int, n = (hi - lo).toNat ∧ 0 ≤ lo ∧ lo ≤ hi ∧ hi ≤ 1000000000 - top ∧ (∃ x4, σ' = [some (.ref b), some (.int missed), some (.int lo), some (.int hi), x4]) ∧ Ex H H' ∧
      missOf (bs.map (· + hi)) ds life ≤ missed ∧ (0 < lo → missed < missOf (bs.map (· + (lo - 1))) ds life)) _ ⟨0, 1000000000 - top, rfl, by omega, by omega, by omega, ⟨_, rfl⟩, e13.trans e4, hb', fun z => absurd z (by decide)⟩ ?_
    rintro n σ' H' ⟨lo, hi, rfl, l0, lh, ht1, ⟨x4, rfl⟩, e, hh, hl1⟩
    refine ⟨_, et_test (ev_op (ev_var rfl) (ev_var rfl) rv_I0), fun hb H5 e5 => ?_, fun hb H5 e5 => ?_⟩
    · have hlt : lo < hi := by simpa using hb
      refine ⟨fun σ2 H2 => ∃ n', n' < (hi - lo).toNat ∧ ∃ lo hi : Int, n' = (hi - lo).toNat ∧ 0 ≤ lo ∧ lo ≤ hi ∧ hi ≤ 1000000000 - top ∧ (∃ x4, σ2 = [some (.ref b), some (.int missed), some (.int lo), some (.int hi), x4]) ∧ Ex H H2 ∧
        missOf (bs.map (· + hi)) ds life ≤ missed ∧ (0 < lo → missed < missOf (bs.map (· + (lo - 1))) ds life), fun σ2 H2 h => h, ?_⟩
      refine q_asg (ev_op (ev_op (ev_var rfl) (ev_var rfl) rv_I0) ev_c (rv_I ⟨by decide, by decide⟩)) fun H6 e6 => ?_
      have e56 := (e.trans e5).trans e6
      have q1 : lo ≤ (lo + hi) / 2 := by omega
      have q2 : (lo + hi) / 2 < hi := by omega
      generalize (lo + hi) / 2 = mid at q1 q2 ⊢
      refine s_if (et_test (ev_op (ev_missO (eo_more (ev_var rfl) (hB.mono e56) (ev_var rfl) (gd (m := mid) (by omega) (by omega))) ev_c) (ev_var rfl) rv_I0)) (fun hb2 H7 e7 => ?_) (fun hb2 H7 e7 => ?_)
      · exact s_asg (ev_var rfl) fun H8 e8 => ⟨_, by omega, lo, mid, rfl, l0, q1, by omega, ⟨_, rfl⟩, (e56.trans e7).trans e8, by simpa using hb2, hl1⟩
      · exact s_asg (ev_op (ev_var rfl) ev_c rv_I0) fun H8 e8 => ⟨_, by omega, mid + 1, hi, rfl, by omega, by omega, ht1, ⟨_, rfl⟩, (e56.trans e7).trans e8, hh, fun _ => by
          rw [show mid + 1 - 1 = mid by omega]
          simpa using hb2⟩
    · have heq : lo = hi := by have : ¬ lo < hi := by simpa using hb
                               omega
      subst heq
      exact s_ret (ev_var rfl) fun H6 e6 => k _ H6 ((e.trans e5).trans e6) ⟨top, ht, htm, .inr ⟨lo, rfl, l0, ht1, hh, hl1⟩⟩
end Sw
namespace Sw
/-! ### the newest loaves; multiplied amounts; known courses -/
section
variable {bs ds ks : List Int} {m life : Int}
def bkI (bs : List Int) (d : Int) : Int := bs.getD ((d % (bs.length : Int)).toNat) 0
def sumNew (bs : List Int) : Nat → Int → Int
  | 0, _ => 0
  | f + 1, d => bkI bs (d - 1) + sumNew bs f (d - 1)
def newest (bs : List Int) : Nat → Int → Int → List (Int × Int)
  | 0, _, _ => []
  | f + 1, d, left => if 0 < left then (if 0 < min left (bkI bs (d - 1)) then [(d - 1, min left (bkI bs (d - 1)))] else []) ++ newest bs f (d - 1) (left - min left (bkI bs (d - 1))) else []
theorem newest_len : ∀ (f : Nat) (d left : Int), (newest bs f d left).length ≤ f
  | 0, _, _ => Nat.le_refl _
  | f + 1, d, left => by
    unfold newest
    have z := newest_len f (d - 1) (left - min left (bkI bs (d - 1)))
    split
    · rw [List.length_append]
      split
      · simp only [List.length_cons, List.length_nil]; omega
      · simp only [List.length_nil]; omega
    · exact Nat.zero_le _
theorem newest_zero {f : Nat} {d : Int} {left : Int} (h : left ≤ 0) : newest bs f d left = [] := by
  cases f with
  | zero => rfl
  | succ f => unfold newest; rw [if_neg (by omega)]
theorem bkI_b (h : ∀ x ∈ bs, 0 ≤ x ∧ x ≤ 1000000000) (d : Int) : 0 ≤ bkI bs d ∧ bkI bs d ≤ 1000000000 := getD_mem0 h
theorem sumNew_nn (h : ∀ x ∈ bs, 0 ≤ x ∧ x ≤ 1000000000) : ∀ (f : Nat) (d : Int), 0 ≤ sumNew bs f d
  | 0, _ => Int.le_refl _
  | f + 1, d => by
    have := (bkI_b h (d - 1)).1
    have := sumNew_nn h f (d - 1)
    show 0 ≤ bkI bs (d - 1) + sumNew bs f (d - 1)
    omega
theorem sumNew_last : ∀ (f : Nat) (d : Int), sumNew bs (f + 1) d = sumNew bs f d + bkI bs (d - 1 - (f : Int))
  | 0, d => by show bkI bs (d - 1) + 0 = 0 + _; simp
  | f + 1, d => by
    show bkI bs (d - 1) + sumNew bs (f + 1) (d - 1) = bkI bs (d - 1) + sumNew bs f (d - 1) + _
    rw [sumNew_last f (d - 1)]
    have e : d - 1 - 1 - (f : Int) = d - 1 - ((f + 1 : Nat) : Int) := by omega
    rw [e]; omega
theorem keepAt_new {t : Nat} : keepAt bs life (t % bs.length) = sumNew bs (life - 1).toNat ((t : Int) + 1) := by
  unfold keepAt
  generalize (life - 1).toNat = f
  induction f with
  | zero => rfl
  | succ f ih =>
    rw [List.range_succ, List.map_append, List.sum_append, ih, sumNew_last]
    have e : (((t % bs.length : Nat) : Int) - (f : Int)) % (bs.length : Int) = ((t : Int) + 1 - 1 - (f : Int)) % (bs.length : Int) := by
      rw [Int.natCast_emod, Int.sub_emod, Int.emod_emod, ← Int.sub_emod]
      congr 1
      omega
    simp only [List.map_cons, List.map_nil, List.sum_cons, List.sum_nil]
    rw [e]
    unfold bkI
    omega
theorem keepL_at {i : Nat} (hi : i < bs.length) : (keepL bs life).getD i 0 = keepAt bs life i := by
  unfold keepL
  simp [List.getD, List.getElem?_range hi]
theorem stock_new (h : Good bs ds) (t : Nat) : dayS bs ds (keepL bs life) t ≤ sumNew bs (life - 1).toNat (t : Int) := by
  cases t with
  | zero => exact sumNew_nn h.b0 _ _
  | succ t =>
    have e : (keepL bs life).getD (t % bs.length) 0 = sumNew bs (life - 1).toNat ((t : Int) + 1) := by
      rw [keepL_at (Nat.mod_lt t h.n0), keepAt_new]
    show stp _ _ _ _ ≤ sumNew bs (life - 1).toNat ((t : Int) + 1)
    rw [← e]
    unfold stp; omega
/-! multiplied -/
theorem mul_mn (hm : 0 ≤ m) (a b : Int) : m * min a b = min (m * a) (m * b) := by
  rcases Int.le_total a b with h | h
  · rw [Int.min_eq_left h, Int.min_eq_left (Int.mul_le_mul_of_nonneg_left h hm)]
  · rw [Int.min_eq_right h, Int.min_eq_right (Int.mul_le_mul_of_nonneg_left h hm)]
theorem mul_mx (hm : 0 ≤ m) (a : Int) : m * max 0 a = max 0 (m * a) := by
  rcases Int.le_total 0 a with h | h
  · have := Int.mul_nonneg hm h
    rw [Int.max_eq_right h, Int.max_eq_right this]
  · have := Int.mul_le_mul_of_nonneg_left h hm
    rw [Int.mul_zero] at this
    rw [Int.max_eq_left h, Int.max_eq_left this, Int.mul_zero]
theorem stp_scale (hm : 0 ≤ m) (s b d k : Int) : stp (m * s) (m * b) (m * d) (m * k) = m * stp s b d k := by
  unfold stp
  rw [mul_mn hm, mul_mx hm, Int.mul_sub, Int.mul_add]
theorem getD_scale (xs : List Int) (i : Nat) : (xs.map (m * ·)).getD i 0 = m * xs.getD i 0 := by
  simp only [List.getD, List.getElem?_map]
  cases xs[i]? with
  | none => simp
  | some v => rfl
theorem keepAt_scale (i : Nat) : keepAt (bs.map (m * ·)) life i = m * keepAt bs life i := by
  unfold keepAt
  rw [List.length_map]
  generalize (life - 1).toNat = n
  induction n with
  | zero => simp
  | succ n ih =>
    rw [List.range_succ, List.map_append, List.sum_append, List.map_append, List.sum_append, ih, Int.mul_add]
    simp only [List.map_cons, List.map_nil, List.sum_cons, List.sum_nil, Int.add_zero]
    rw [getD_scale]
theorem keepL_scale {i : Nat} (hi : i < bs.length) : (keepL (bs.map (m * ·)) life).getD i 0 = m * (keepL bs life).getD i 0 := by
  rw [keepL_at hi, keepL_at (by rw [List.length_map]; exact hi), keepAt_scale]
theorem dayS_scale (hm : 0 ≤ m) (h0 : 0 < bs.length) (t : Nat) : dayS (bs.map (m * ·)) (ds.map (m * ·)) (keepL (bs.map (m * ·)) life) t = m * dayS bs ds (keepL bs life) t := by
  induction t with
  | zero => show (0 : Int) = m * 0; simp
  | succ t ih =>
    show stp _ _ _ _ = m * stp _ _ _ _
    rw [ih, List.length_map, getD_scale, getD_scale, keepL_scale (Nat.mod_lt t h0), stp_scale hm]
theorem bk_scale (t : Nat) : bk (bs.map (m * ·)) t = m * bk bs t := by unfold bk; rw [List.length_map, getD_scale]
theorem dm_scale (t : Nat) : dm (bs.map (m * ·)) (ds.map (m * ·)) t = m * dm bs ds t := by unfold dm; rw [List.length_map, getD_scale]
theorem mis_scale (hm : 0 ≤ m) (h0 : 0 < bs.length) (t : Nat) : misS (bs.map (m * ·)) (ds.map (m * ·)) (keepL (bs.map (m * ·)) life) t = m * misS bs ds (keepL bs life) t := by
  unfold misS
  rw [dayS_scale hm h0, bk_scale, dm_scale, mul_mx hm, Int.mul_sub, Int.mul_sub]
theorem sol_scale (hm : 0 ≤ m) (h0 : 0 < bs.length) (t : Nat) : solS (bs.map (m * ·)) (ds.map (m * ·)) (keepL (bs.map (m * ·)) life) t = m * solS bs ds (keepL bs life) t := by
  unfold solS
  rw [mis_scale hm h0, dm_scale, Int.mul_sub]
theorem thr_scale (hm : 0 ≤ m) (h0 : 0 < bs.length) (t : Nat) : thrS (bs.map (m * ·)) (ds.map (m * ·)) (keepL (bs.map (m * ·)) life) t = m * thrS bs ds (keepL bs life) t := by
  unfold thrS
  rw [sol_scale hm h0, bk_scale, dayS_scale hm h0, dayS_scale hm h0, Int.mul_sub, Int.mul_sub, Int.mul_sub]
theorem psum_scale {f g : Nat → Int} (h : ∀ j, f j = m * g j) : ∀ n, psum f n = m * psum g n
  | 0 => by show (0 : Int) = m * 0; simp
  | n + 1 => by show psum f n + f n = m * (psum g n + g n); rw [psum_scale h n, h, Int.mul_add]
theorem newest_scale (hm : 0 < m) : ∀ (f : Nat) (d left : Int), newest (bs.map (m * ·)) f d (m * left) = (newest bs f d left).map fun p => (p.1, m * p.2)
  | 0, _, _ => rfl
  | f + 1, d, left => by
    have eb : bkI (bs.map (m * ·)) (d - 1) = m * bkI bs (d - 1) := by unfold bkI; rw [List.length_map, getD_scale]
    have pos : ∀ x : Int, 0 < m * x ↔ 0 < x := fun x => ⟨fun z => by
      rcases Int.lt_or_le 0 x with q | q
      · exact q
      · have := Int.mul_le_mul_of_nonneg_left q (Int.le_of_lt hm)
        rw [Int.mul_zero] at this
        omega, fun z => Int.mul_pos hm z⟩
    unfold newest
    rw [eb, ← mul_mn (Int.le_of_lt hm), ← Int.mul_sub, newest_scale hm f]
    by_cases h1 : 0 < left
    · rw [if_pos h1, if_pos ((pos _).mpr h1), List.map_append]
      by_cases h2 : 0 < min left (bkI bs (d - 1))
      · rw [if_pos h2, if_pos ((pos _).mpr h2)]; rfl
      · rw [if_neg h2, if_neg (fun z => h2 ((pos _).mp z))]; rfl
    · rw [if_neg h1, if_neg (fun z => h1 ((pos _).mp z))]; rfl
/-! life 1 -/
theorem day_life1 (t : Nat) : dayS bs ds (keepL bs 1) t = 0 := by
  have k0 : ∀ i, (keepL bs 1).getD i 0 = 0 := fun i => by
    by_cases hi : i < bs.length
    · rw [keepL_at hi]; rfl
    · have e : (List.range bs.length)[i]? = none := List.getElem?_eq_none (by rw [List.length_range]; omega)
      unfold keepL
      simp [List.getD, List.getElem?_map, e]
  cases t with
  | zero => rfl
  | succ t =>
    show stp _ _ _ _ = 0
    rw [k0]
    unfold stp; omega
/-! the same each day -/
theorem keep_one {b : Int} (l1 : 1 ≤ life) : (keepL [b] life).getD 0 0 = (life - 1) * b := by
  rw [keepL_at (show 0 < 1 by decide)]
  unfold keepAt
  have e : (life - 1) * b = ((life - 1).toNat : Int) * b := by rw [Int.toNat_of_nonneg (by omega)]
  rw [e]
  generalize (life - 1).toNat = n
  induction n with
  | zero => simp
  | succ n ih =>
    rw [List.range_succ, List.map_append, List.sum_append, ih]
    have z : ((([b] : List Int).length : Nat) : Int) = 1 := rfl
    simp only [List.map_cons, List.map_nil, List.sum_cons, List.sum_nil, z, Int.emod_one]
    rw [Int.natCast_add, Int.add_mul]
    simp
theorem day_one {b d : Int} (b0 : 0 ≤ b) (l1 : 1 ≤ life) (t : Nat) : dayS [b] [d] (keepL [b] life) t = max 0 (min ((t : Int) * (b - d)) ((life - 1) * b)) := by
  have hk : 0 ≤ (life - 1) * b := Int.mul_nonneg (by omega) b0
  induction t with
  | zero => show (0 : Int) = _; simp; omega
  | succ t ih =>
    show stp _ _ _ _ = _
    have e : t % ([b] : List Int).length = 0 := Nat.mod_one t
    rw [ih, e, keep_one l1]
    have e2 : ((t + 1 : Nat) : Int) * (b - d) = (t : Int) * (b - d) + (b - d) := by rw [Int.natCast_add, Int.add_mul]; simp
    rw [e2]
    show stp _ b d _ = _
    generalize (life - 1) * b = k at hk ⊢
    rcases Int.le_total d b with h | h
    · have : 0 ≤ (t : Int) * (b - d) := Int.mul_nonneg (by omega) (by omega)
      generalize (t : Int) * (b - d) = x at this ⊢
      unfold stp; omega
    · have : (t : Int) * (b - d) ≤ 0 := by
        have := Int.mul_nonneg (show (0 : Int) ≤ (t : Int) by omega) (show 0 ≤ d - b by omega)
        have e3 : (t : Int) * (d - b) = - ((t : Int) * (b - d)) := by rw [← Int.mul_neg]; congr 1; omega
        omega
      generalize (t : Int) * (b - d) = x at this ⊢
      unfold stp; omega
theorem mis_one {b d : Int} (b0 : 0 ≤ b) (l1 : 1 ≤ life) (t : Nat) : misS [b] [d] (keepL [b] life) t = max 0 (d - b) := by
  have hk : 0 ≤ (life - 1) * b := Int.mul_nonneg (by omega) b0
  unfold misS
  have e1 : dm [b] [d] t = d := by unfold dm; have e : t % ([b] : List Int).length = 0 := Nat.mod_one t; rw [e]; rfl
  have e2 : bk [b] t = b := by unfold bk; have e : t % ([b] : List Int).length = 0 := Nat.mod_one t; rw [e]; rfl
  rw [e1, e2, day_one b0 l1]
  rcases Int.le_total d b with h | h
  · omega
  · have : (t : Int) * (b - d) ≤ 0 := by
      have := Int.mul_nonneg (show (0 : Int) ≤ (t : Int) by omega) (show 0 ≤ d - b by omega)
      have e3 : (t : Int) * (d - b) = - ((t : Int) * (b - d)) := by rw [← Int.mul_neg]; congr 1; omega
      omega
    omega
theorem sol_one {b d : Int} (b0 : 0 ≤ b) (l1 : 1 ≤ life) (t : Nat) : solS [b] [d] (keepL [b] life) t = min b d := by
  unfold solS
  have e1 : dm [b] [d] t = d := by unfold dm; have e : t % ([b] : List Int).length = 0 := Nat.mod_one t; rw [e]; rfl
  rw [mis_one b0 l1, e1]; omega
theorem psum_same {f : Nat → Int} {c : Int} (h : ∀ j, f j = c) : ∀ n : Nat, psum f n = c * (n : Int)
  | 0 => by show (0 : Int) = c * 0; simp
  | n + 1 => by show psum f n + f n = _; rw [psum_same h n, h, Int.natCast_add, Int.mul_add]; simp
end
end Sw
namespace Sw
open PySem PySem.Spec PyProof.Rows L2 Evl
local macro_rules | `(tactic| walk_at "ev") => `(tactic| first
  | exact ev_c
  | exact ev_var rfl
  | ((with_reducible show Ev (tCB rMax2 _) _ _ _); exact ev_maxi (by walk_at "ev") (by walk_at "ev"))
  | ((with_reducible show Ev (tCB rMn _) _ _ _); exact ev_min2 (by walk_at "ev") (by walk_at "ev"))
  | ((with_reducible show Ev (tUn _ _) _ _ _); exact ev_un (by walk_at "ev") ru_neg)
  | ((with_reducible show Ev (tFld _ _ _) _ _ _); exact ev_fldK (by walk_at "ev") (by assumption))
  | ((with_reducible show Ev (tOp (rI0 _) _ _) _ _ _); exact ev_op (by walk_at "ev") (by walk_at "ev") rv_I0)
  | ((with_reducible show Ev (tOp rEq _ _) _ _ _); exact ev_op (by walk_at "ev") (by walk_at "ev") (rv_eq rfl))
  | ((with_reducible show Ev (tOp rNe _ _) _ _ _); exact ev_op (by walk_at "ev") (by walk_at "ev") (rv_ne rfl)))

/-! ### sold, loaves_at, shelf -/
/-- a list of pairs of numbers -/
def PairsAt (H : Hp) (xs : List V) (l : List (Int × Int)) : Prop := xs.length = l.length ∧ ∀ (i : Nat) (u : V) (d c : Int), xs[i]? = some u → l[i]? = some (d, c) → ∃ p : Addr, u = .ref p ∧ H p = some (.tup [.int d, .int c])
section
variable {K : PySem.W.Frag} {σ : L2.St} {H H' : Hp} {te : TE} {a F q : Addr} {xs : List V} {l : List (Int × Int)} {d c : Int}
theorem PairsAt.mono (e : Ex H H') (h : PairsAt H xs l) : PairsAt H' xs l := ⟨h.1, fun i u d c h1 h2 => let ⟨p, e1, e2⟩ := h.2 i u d c h1 h2; ⟨p, e1, e _ _ e2⟩⟩
theorem PairsAt.app {ys : List V} (h : PairsAt H xs l) (hF : H F = some (.lst ys)) (hq : H q = some (.tup [.int d, .int c])) : PairsAt (upd H F (.lst (xs ++ [.ref q]))) (xs ++ [.ref q]) (l ++ [(d, c)]) := by
  have ne : ∀ {p : Addr} {zs : List V}, H p = some (.tup zs) → p ≠ F := fun hp z => by
    subst z; rw [hF] at hp; cases hp
  refine ⟨by rw [List.length_append, List.length_append, h.1]; rfl, fun i u d' c' h1 h2 => ?_⟩
  by_cases hi : i < xs.length
  · rw [List.getElem?_append_left hi] at h1
    rw [List.getElem?_append_left (by rw [← h.1]; exact hi)] at h2
    obtain ⟨p, e1, e2⟩ := h.2 i u d' c' h1 h2
    exact ⟨p, e1, by rw [upd_ne (ne e2)]; exact e2⟩
  · have hlt := (List.getElem?_eq_some_iff.mp h1).1
    rw [List.length_append, List.length_singleton] at hlt
    have e : i = xs.length := by omega
    subst e
    rw [List.getElem?_append_right (Nat.le_refl _), Nat.sub_self] at h1
    rw [h.1, List.getElem?_append_right (Nat.le_refl _), Nat.sub_self] at h2
    cases h1
    cases h2
    exact ⟨q, rfl, by rw [upd_ne (ne hq)]; exact hq⟩
theorem PairsAt.rev (h : PairsAt H xs l) : PairsAt H xs.reverse l.reverse := by
  refine ⟨by rw [List.length_reverse, List.length_reverse, h.1], fun i u d c h1 h2 => ?_⟩
  have hlt := (List.getElem?_eq_some_iff.mp h1).1
  rw [List.length_reverse] at hlt
  rw [List.getElem?_reverse hlt] at h1
  rw [List.getElem?_reverse (by rw [← h.1]; exact hlt), ← h.1] at h2
  exact h.2 _ u d c h1 h2
def EvPs (te : TE) (σ : L2.St) (H : Hp) (l : List (Int × Int)) : Prop := ∀ H1, Ex H H1 → ∀ Q : VK, (∀ p xs H2, H1 p = none → Ex H1 H2 → H2 p = some (.lst xs) → PairsAt H2 xs l → Q (.ref p) H2) → te σ H1 Q
end
section
variable {bs ds : List Int} {life : Int}
def shelfL (bs ds : List Int) (life : Int) (t : Nat) : List (Int × Int) := (newest bs (life - 1).toNat (t : Int) (dayS bs ds (keepL bs life) t)).reverse
end
def RetPs (l : List (Int × Int)) (H : Hp) (Q : VK) : Prop := ∀ p xs H2, H p = none → Ex H H2 → H2 p = some (.lst xs) → PairsAt H2 xs l → Q (.ref p) H2
def sp_loaves (K : PySem.W.Frag) (Z : Ad) : Sp := fun vs H Q _ => ∃ (c : Addr) (bs ds : List Int) (life : Int) (t : Nat), vs = [.ref c, .int (t : Int)] ∧ CoAt K Z H c bs ds (keepL bs life) ∧ Good bs ds ∧ life ≤ 30 ∧ RetPs (shelfL bs ds life t) H Q
theorem eps_meth {σ : L2.St} {H : Hp} {ta : TE} {a C : Addr} {m : Str} {l : List (Int × Int)} {sp : Sp} {dvs vs : List V} {E : XK} {t : TA} (h : Ev ta σ H (.ref a)) (nf : NoF H a C m) (hv : EvA t σ H vs) (hs : ∀ H1, Ex H H1 → ∀ Q : VK, RetPs l H1 Q → ∀ E : XK, sp (.ref a :: (vs ++ dvs)) H1 Q E) : EvPs (tMeth C m sp dvs E ta t) σ H l := fun H1 e Q q =>
  h H1 e _ fun H2 e2 => let ⟨dx, fs, h1, h2⟩ := nf; ⟨a, dx, fs, rfl, e2 _ _ (e _ _ h1), h2, hv H2 (e.trans e2) _ fun H3 e3 => hs H3 ((e.trans e2).trans e3) Q (fun p xs H4 hp e4 h4 hP => q p xs H4 (fresh_back (e2.trans e3) hp) ((e2.trans e3).trans e4) h4 hP) E⟩
theorem s_retPs {σ : L2.St} {H : Hp} {te : TE} {l : List (Int × Int)} {D : Ends} (h : EvPs te σ H l) (k : RetPs l H D.rt) : tRet te D σ H := h H (Ex.refl _) _ k
variable {P : Program} {w : World} {K : PySem.W.Frag} {mg : Str → Option Value} {base : Heap} {Z : Ad}
theorem ok_Course_loaves_at (T : Txt K mg Z) : FnOk P w K mg base CX0 4 Z.f_Course_loaves_at Z.d_Course_loaves_at p_Course_loaves_at (sp_loaves K Z) := by
  refine T.F_Course_loaves_at.ok sc_Course_loaves_at (fun vs H Q E h => ?_) (fun cdv Ar outer s H vs Q E hr h => ?_)
  · obtain ⟨c, bs, ds, life, t, rfl, _⟩ := h
    rfl
  · obtain ⟨c, bs, ds, life, t, rfl, hC, gd, l1, k⟩ := h
    have cm : CoM bs ds (keepL bs life) := ⟨gd, keepL_len, fun _ => keepL_nn gd.b0⟩
    obtain ⟨tb, td, tk, s⟩ := hC.sr
    have n0 := gd.n0
    refine ⟨_, (pss_cons (ps_set (i := 2) sc_Course_loaves_at.nd rfl (Or.inl rfl) (pe_meth (pv 0) T.cl_Course T.m_Course_stock_at (ok_Course_stock_at T) (hr.mono (by decide)) T.b_Course_stock_at .nil pass0 (pa_cons (pv 1) pa_nil)))
      (pss_cons (ps_set (i := 3) sc_Course_loaves_at.nd rfl (Or.inl rfl) (pv 1))
      (pss_cons (ps_set (i := 4) sc_Course_loaves_at.nd rfl (Or.inl rfl) (pe_lst pa_nil))
      (pss_cons (ps_while PassesOwn.never (pt_cmpR op_gt (pv 2) pe_int (nomark _)) (pss_cons (ps_aug (i := 3) sc_Course_loaves_at.nd rfl (Or.inl rfl) pe_int in_sub)
      (pss_cons (ps_set (i := 5) sc_Course_loaves_at.nd rfl (Or.inl rfl) (pe_callB (r := rMn) (call_min2 rfl) (by rfl) T.b_min boot_min (pa_cons (pv 2) (pa_cons (pe_ix (r := rIxT K) ix_tup (pe_fldK K rfl (pv 0) rfl) (pe_op op_mod (pv 3) (pe_callB (r := rLenS K) (call_len_seq) (by rfl) T.b_len boot_len (pa_cons (pe_fldK K rfl (pv 0) rfl) pa_nil))) (fun _ _ => rfl)) pa_nil))))
      (pss_cons (ps_if (pt_cmpR op_gt (pv 5) pe_int (nomark _)) (pss_one (ps_expr (pe_bm PySem.F.plainAttrs_list PySem.F.slot_list_append PySem.F.type_list_append mt_append (pv 4) (pa_cons (pe_tup (pa_cons (pv 3) (pa_cons (pv 5) pa_nil))) pa_nil)))) pss_nil)
      (pss_one (ps_aug (i := 2) sc_Course_loaves_at.nd rfl (Or.inl rfl) (pv 5) in_sub))))))
      (pss_one (ps_ret (pe_revL (pv 4)))))))), ?_⟩
    refine q_asg (ev_is (ev_meth (ev_var rfl) (hC.nf _ (by decide)) (ea_cons (ev_var rfl) ea_nil) (spv_stock_at s)) (congrArg V.int (stock_is cm t))) fun H1 e1 => ?_
    refine q_asg (ev_var rfl) fun H2 e2 => ?_
    refine q_asgL (xs := []) (el_lst ea_nil (by show 0 ≤ 100000; decide)) fun F H3 hF e3 h3 => ?_
    have sl := stock_new (life := life) gd t
    refine q_while (fun m σ' H' => ∃ (dd left : Int) (acc : List (Int × Int)) (xs : List V) (x5 : Option V), σ' = [some (.ref c), some (.int (t : Int)), some (.int left), some (.int dd), some (.ref F), x5] ∧ Ex H2 H' ∧ H' F = some (.lst xs) ∧ PairsAt H' xs acc ∧ acc.length + m ≤ 29 ∧ 0 ≤ left ∧ left ≤ sumNew bs m dd ∧
      acc ++ newest bs m dd left = newest bs (life - 1).toNat (t : Int) (dayS bs ds (keepL bs life) t)) (life - 1).toNat ⟨(t : Int), dayS bs ds (keepL bs life) t, [], [], _, rfl, e3, h3, ⟨rfl, fun i u d c z => by cases z⟩, by simp only [List.length_nil]; omega, dayS_nn cm t, sl, rfl⟩ ?_
    rintro m σ' H' ⟨dd, left, acc, xs, x5, rfl, e4, hx, hp, hm, p0, pl, eq⟩
    have eA : Ex H H' := (e1.trans e2).trans e4
    refine ⟨_, et_test (ev_op (ev_var rfl) ev_c rv_I0), fun hb H5 e5 => ?_, fun hb H5 e5 => ?_⟩
    · have hpos : 0 < left := by simpa using hb
      obtain ⟨f, rfl⟩ : ∃ f, m = f + 1 := by
        cases m with
        | zero => exact absurd pl (by show ¬ left ≤ 0; omega)
        | succ f => exact ⟨f, rfl⟩
      have pl' : left ≤ bkI bs (dd - 1) + sumNew bs f (dd - 1) := pl
      have sn := sumNew_nn gd.b0 f (dd - 1)
      have bb := bkI_b gd.b0 (dd - 1)
      have eq' : acc ++ ((if 0 < min left (bkI bs (dd - 1)) then [(dd - 1, min left (bkI bs (dd - 1)))] else []) ++ newest bs f (dd - 1) (left - min left (bkI bs (dd - 1)))) = newest bs (life - 1).toNat (t : Int) (dayS bs ds (keepL bs life) t) := by
        rw [← eq]; congr 1; show _ = newest bs (f + 1) dd left; rw [newest, if_pos hpos]
      refine ⟨fun σ2 H2' => ∃ m', m' < f + 1 ∧ ∃ (dd left : Int) (acc : List (Int × Int)) (xs : List V) (x5 : Option V), σ2 = [some (.ref c), some (.int (t : Int)), some (.int left), some (.int dd), some (.ref F), x5] ∧ Ex H2 H2' ∧ H2' F = some (.lst xs) ∧ PairsAt H2' xs acc ∧ acc.length + m' ≤ 29 ∧ 0 ≤ left ∧ left ≤ sumNew bs m' dd ∧
        acc ++ newest bs m' dd left = newest bs (life - 1).toNat (t : Int) (dayS bs ds (keepL bs life) t), fun σ2 H2 h => h, ?_⟩
      refine q_aug (a := dd) (b := 1) rfl ev_c fun H6 e6 => ?_
      have e06 := (eA.trans e5).trans e6
      have hP := s.pr.mono e06
      have fb := hP.fb
      have hl : ((bs.map V.int).length : Int) = (bs.length : Int) := by rw [List.length_map]
      have r0 : 0 ≤ (dd - 1) % (bs.length : Int) := Int.emod_nonneg _ (by omega)
      have r1 : (dd - 1) % (bs.length : Int) < (bs.length : Int) := Int.emod_lt_of_pos _ (by omega)
      refine q_asg (v := .int (min left (bkI bs (dd - 1)))) (ev_min2 (ev_var rfl) (ev_ixT (v := .int (bkI bs (dd - 1))) (by walk_at "ev") hP.hb (ev_op (ev_var rfl) (Ev.int_eq (ev_lenT (by walk_at "ev") hP.hb) hl) (rv_I (by show (0 : Int) < (bs.length : Int); omega))) (atI_mapI r0 r1))) fun H7 e7 => ?_
      generalize hc : min left (bkI bs (dd - 1)) = cnt at eq'
      have e57 := (e5.trans e6).trans e7
      have hx7 := e57 _ _ hx
      refine q_when (b := decide (cnt > 0)) (et_test (ev_op (ev_var rfl) ev_c rv_I0)) (fun hb2 H8 e8 => ?_) (fun hb2 H8 e8 => ?_)
      · have hc0 : 0 < cnt := by simpa using hb2
        rw [if_pos hc0] at eq'
        refine s_appU (xs := xs) (e8 _ _ hx7) (ev_var rfl) (eu_tup (ea_cons (ev_var rfl) (ea_cons (ev_var rfl) ea_nil)) (by show 2 ≤ 100000; decide)) (by rw [hp.1]; omega) fun q H9 hq e9 h9 => ?_
        refine s_aug (a := left) (b := cnt) rfl (ev_var rfl) fun H10 e10 => ?_
        have e59 := (e57.trans e8).trans e9
        refine ⟨f, Nat.lt_succ_self _, dd - 1, left - cnt, acc ++ [(dd - 1, cnt)], xs ++ [.ref q], _, rfl, (Ex.mut (e4.trans e59) hF).trans e10, e10 _ _ upd_same, ((hp.mono e59).app (e59 _ _ hx) h9).mono e10, by rw [List.length_append, List.length_singleton]; omega, by omega, by omega, ?_⟩
        rw [List.append_assoc]
        exact eq'
      · have hc0 : ¬ 0 < cnt := by simpa using hb2
        rw [if_neg hc0] at eq'
        refine s_aug (a := left) (b := cnt) rfl (ev_var rfl) fun H10 e10 => ?_
        have e5A := (e57.trans e8).trans e10
        exact ⟨f, Nat.lt_succ_self _, dd - 1, left - cnt, acc, xs, _, rfl, e4.trans e5A, e5A _ _ hx, hp.mono e5A, by omega, by omega, by omega, eq'⟩
    · have h0 : left ≤ 0 := by
        have : ¬ 0 < left := by simpa using hb
        omega
      rw [newest_zero h0, List.append_nil] at eq
      subst eq
      have hx5 := e5 _ _ hx
      refine ⟨.ref F, rfl, F, xs, rfl, sq_of hx5, fun r hr => ?_⟩
      have e05 := eA.trans e5
      exact k r xs.reverse _ (fresh_back e05 hr) (e05.trans (Ex.new hr)) upd_same ((hp.mono e5).mono (Ex.new hr)).rev
theorem ok_Bakery_sold (T : Txt K mg Z) : FnOk P w K mg base CX0 4 Z.f_Bakery_sold Z.d_Bakery_sold p_Bakery_sold (sp_Bday K Z 0) := by
  refine T.F_Bakery_sold.ok sc_Bakery_sold (fun vs H Q E h => ?_) (fun cdv Ar outer s H vs Q E hr h => ?_)
  · obtain ⟨b, bs, ds, life, i, t, rfl, _⟩ := h
    rfl
  · obtain ⟨b, bs, ds, life, i, t, rfl, ht, hB, k⟩ := h
    refine ⟨_, (pss_cons (ps_expr (pe_call (ok_check_number T) (hr.mono (by decide)) (by rfl) T.g_check_number T.F_check_number.kp T.b_check_number .nil pass0 (pa_cons (pv 1) (pa_cons pe_int (pa_cons (pe_glob (v := .int 1000000000000000000) (by rfl) T.g_LAST_DAY ⟨_, rfl⟩) pa_nil)))))
      (pss_one (ps_ret (pe_ix (r := rIxT K) ix_tup (pe_meth (pe_fldK K rfl (pv 0) rfl) T.cl_Course T.m_Course_sales_on (ok_Course_sales_on T) (hr.mono (by decide)) T.b_Course_sales_on .nil pass0 (pa_cons (pv 1) pa_nil)) pe_int (fun _ _ => rfl))))), ?_⟩
    refine q_drop (ev_call (ea_cons (ev_var rfl) (ea_cons ev_c (ea_cons ev_c ea_nil))) (spv_num (by omega) ht)) fun H1 e1 => ?_
    obtain ⟨c, fc, hC⟩ := (hB.mono e1).fc
    obtain ⟨tb, td, tk, s⟩ := hC.sr
    have hs : salesI bs ds (keepL bs life) (gainOf bs ds) (firstOf bs ds (keepL bs life)) (fullOf bs ds (keepL bs life)) (t : Int) = _ := sales_is hB.com t
    refine s_ret (ev_ixNU (i := 0) (v := .int (solS bs ds (keepL bs life) t)) (eu_meth (by walk_at "ev") (hC.nf _ (by decide)) (ea_cons (ev_var rfl) ea_nil) (spu_sales_on s)) ev_c (by rw [hs]; rfl)) fun H2 e2 => k H2 (e1.trans e2)
def sp_Bshelf (K : PySem.W.Frag) (Z : Ad) : Sp := fun vs H Q _ => ∃ (b : Addr) (bs ds : List Int) (life : Int) (i : Nat) (t : Nat), vs = [.ref b, .int (t : Int)] ∧ (t : Int) ≤ 1000000000000000000 ∧ BakAt K Z H b bs ds life i ∧ RetPs (shelfL bs ds life t) H Q
theorem ok_Bakery_shelf (T : Txt K mg Z) : FnOk P w K mg base CX0 5 Z.f_Bakery_shelf Z.d_Bakery_shelf p_Bakery_shelf (sp_Bshelf K Z) := by
  refine T.F_Bakery_shelf.ok sc_Bakery_shelf (fun vs H Q E h => ?_) (fun cdv Ar outer s H vs Q E hr h => ?_)
  · obtain ⟨b, bs, ds, life, i, t, rfl, _⟩ := h
    rfl
  · obtain ⟨b, bs, ds, life, i, t, rfl, ht, hB, k⟩ := h
    refine ⟨_, (pss_cons (ps_expr (pe_call (ok_check_number T) (hr.mono (by decide)) (by rfl) T.g_check_number T.F_check_number.kp T.b_check_number .nil pass0 (pa_cons (pv 1) (pa_cons pe_int (pa_cons (pe_glob (v := .int 1000000000000000000) (by rfl) T.g_LAST_DAY ⟨_, rfl⟩) pa_nil)))))
      (pss_one (ps_ret (pe_meth (pe_fldK K rfl (pv 0) rfl) T.cl_Course T.m_Course_loaves_at (ok_Course_loaves_at T) (hr.mono (by decide)) T.b_Course_loaves_at .nil pass0 (pa_cons (pv 1) pa_nil))))), ?_⟩
    refine q_drop (ev_call (ea_cons (ev_var rfl) (ea_cons ev_c (ea_cons ev_c ea_nil))) (spv_num (by omega) ht)) fun H1 e1 => ?_
    obtain ⟨c, fc, hC⟩ := (hB.mono e1).fc
    refine s_retPs (l := shelfL bs ds life t) (eps_meth (vs := [.int (t : Int)]) (ev_fldK (ev_var rfl) fc) (hC.nf _ (by decide)) (ea_cons (ev_var rfl) ea_nil) fun _ e _ q _ => ⟨c, bs, ds, life, t, rfl, CO.mono e hC, hB.gd, hB.l1, q⟩) fun p xs H4 hp e4 h4 hP => k p xs H4 (fresh_back e1 hp) (e1.trans e4) h4 hP
end Sw
namespace Sw
/-! ### a day's play of the loaves, the oldest first -/
section
variable {bs ds : List Int} {life T : Int}
/-- what is left to sell, what is kept, what is thrown: one item is looked at -/
def play1 (life T : Int) (s : Int × List (Int × Int) × Int) (x : Int × Int) : Int × List (Int × Int) × Int :=
  if x.1 + life - 1 ≤ T then (s.1 - min s.1 x.2, s.2.1, s.2.2 + x.2 - min s.1 x.2)
  else if min s.1 x.2 < x.2 then (s.1 - min s.1 x.2, s.2.1 ++ [(x.1, x.2 - min s.1 x.2)], s.2.2)
  else (s.1 - min s.1 x.2, s.2.1, s.2.2)
def isOld (life T : Int) (x : Int × Int) : Bool := decide (x.1 + life - 1 ≤ T)
def cntS (l : List (Int × Int)) : Int := (l.map (·.2)).sum
theorem cntS_app (a b : List (Int × Int)) : cntS (a ++ b) = cntS a + cntS b := by unfold cntS; rw [List.map_append, List.sum_append]
theorem cntS_rev (a : List (Int × Int)) : cntS a.reverse = cntS a := by
  induction a with
  | nil => rfl
  | cons x r ih => rw [List.reverse_cons, cntS_app, ih]; unfold cntS; simp; omega
/-- the list of the newest ones, told by its first item -/
theorem newest_succ (gb : ∀ x ∈ bs, 0 ≤ x ∧ x ≤ 1000000000) {f : Nat} {d left : Int} (h0 : 0 ≤ left) : newest bs (f + 1) d left = (if 0 < min left (bkI bs (d - 1)) then [(d - 1, min left (bkI bs (d - 1)))] else []) ++ newest bs f (d - 1) (left - min left (bkI bs (d - 1))) := by
  have bb := bkI_b gb (d - 1)
  rw [newest]
  by_cases h : 0 < left
  · rw [if_pos h]
  · have e : left = 0 := by omega
    subst e
    rw [if_neg (by omega), if_neg (by omega), newest_zero (by omega)]; rfl
theorem newest_sum (gb : ∀ x ∈ bs, 0 ≤ x ∧ x ≤ 1000000000) : ∀ (f : Nat) (d left : Int), 0 ≤ left → left ≤ sumNew bs f d → cntS (newest bs f d left) = left
  | 0, d, left, h0, h1 => by
    have : left ≤ 0 := h1
    show (0 : Int) = left
    omega
  | f + 1, d, left, h0, h1 => by
    have h1' : left ≤ bkI bs (d - 1) + sumNew bs f (d - 1) := h1
    have sn := sumNew_nn gb f (d - 1)
    have bb := bkI_b gb (d - 1)
    rw [newest_succ gb h0, cntS_app, newest_sum gb f (d - 1) _ (by omega) (by omega)]
    by_cases h : 0 < min left (bkI bs (d - 1))
    · rw [if_pos h]; show min left (bkI bs (d - 1)) + 0 + _ = _; omega
    · rw [if_neg h]; show 0 + _ = _; omega
theorem play_newest (gb : ∀ x ∈ bs, 0 ≤ x ∧ x ≤ 1000000000) : ∀ (f : Nat) (d left q : Int) (kp : List (Int × Int)) (th : Int), 0 ≤ left → left ≤ sumNew bs f d → 0 ≤ q →
    (newest bs f d left).reverse.foldl (play1 life T) (q, kp, th) = (max 0 (q - left), kp ++ ((newest bs f d (max 0 (left - q))).filter fun x => !isOld life T x).reverse, th + cntS ((newest bs f d (max 0 (left - q))).filter (isOld life T)))
  | 0, d, left, q, kp, th, h0, h1, hq => by
    have : left ≤ 0 := h1
    have e : left = 0 := by omega
    subst e
    show (q, kp, th) = (max 0 (q - 0), kp ++ [], th + 0)
    rw [List.append_nil, Int.add_zero, Int.sub_zero, Int.max_eq_right hq]
  | f + 1, d, left, q, kp, th, h0, h1, hq => by
    have h1' : left ≤ bkI bs (d - 1) + sumNew bs f (d - 1) := h1
    have sn := sumNew_nn gb f (d - 1)
    have bb := bkI_b gb (d - 1)
    rw [newest_succ gb h0, newest_succ gb (show 0 ≤ max 0 (left - q) by omega), List.reverse_append, List.foldl_append, play_newest gb f (d - 1) _ q kp th (by omega) (by omega) hq]
    have e2 : max 0 (left - q) - min (max 0 (left - q)) (bkI bs (d - 1)) = max 0 (left - min left (bkI bs (d - 1)) - q) := by omega
    rw [e2, List.filter_append, List.filter_append, List.reverse_append, cntS_app]
    generalize newest bs f (d - 1) (max 0 (left - min left (bkI bs (d - 1)) - q)) = old
    generalize bkI bs (d - 1) = b at *
    have e3 : min (max 0 (left - q)) b = min left b - min (max 0 (q - (left - min left b))) (min left b) := by omega
    have e4 : max 0 (q - left) = max 0 (q - (left - min left b)) - min (max 0 (q - (left - min left b))) (min left b) := by omega
    rw [e3, e4]
    have c0 : 0 ≤ min left b := by omega
    have q0 : 0 ≤ max 0 (q - (left - min left b)) := by omega
    generalize min left b = c at *
    generalize max 0 (q - (left - c)) = q1 at *
    by_cases hc : 0 < c
    · rw [if_pos hc]
      show play1 life T _ (d - 1, c) = _
      unfold play1
      simp only []
      by_cases ho : d - 1 + life - 1 ≤ T
      · rw [if_pos ho]
        by_cases hr : 0 < c - min q1 c
        · rw [if_pos hr]
          have o : isOld life T (d - 1, c - min q1 c) = true := decide_eq_true ho
          simp only [List.filter_cons, List.filter_nil, o, Bool.not_true, if_true, Bool.false_eq_true, if_false, List.reverse_nil, List.append_nil]
          have : cntS [(d - 1, c - min q1 c)] = c - min q1 c := by simp [cntS]
          rw [this]
          congr 2
          omega
        · rw [if_neg hr]
          simp only [List.filter_nil, List.reverse_nil, List.append_nil]
          have : cntS [] = 0 := rfl
          rw [this]
          congr 2
          omega
      · rw [if_neg ho]
        by_cases hr : 0 < c - min q1 c
        · rw [if_pos hr, if_pos (by omega)]
          have o : isOld life T (d - 1, c - min q1 c) = false := decide_eq_false ho
          simp only [List.filter_cons, List.filter_nil, o, Bool.not_false, if_true, Bool.false_eq_true, if_false, List.reverse_cons, List.reverse_nil, List.nil_append, List.append_assoc]
          have : cntS [] = 0 := rfl
          rw [this, Int.zero_add]
        · rw [if_neg hr, if_neg (by omega)]
          simp only [List.filter_nil, List.reverse_nil, List.append_nil]
          have : cntS [] = 0 := rfl
          rw [this, Int.zero_add]
    · rw [if_neg hc, if_neg (by omega)]
      simp only [List.filter_nil, List.reverse_nil, List.append_nil, List.foldl_nil]
      have : cntS [] = 0 := rfl
      rw [this, Int.zero_add]
      congr 1
      omega
/-- of the newest ones, those of the last g days -/
theorem newest_young (gb : ∀ x ∈ bs, 0 ≤ x ∧ x ≤ 1000000000) : ∀ (g f : Nat) (d R : Int), g ≤ f → 0 ≤ R → T - life + 2 = d - (g : Int) →
    (newest bs f d R).filter (fun x => !isOld life T x) = newest bs g d (min R (sumNew bs g d))
  | 0, f, d, R, _, h0, hT => by
    have all : ∀ (f : Nat) (d R : Int), T - life + 2 ≥ d → (newest bs f d R).filter (fun x => !isOld life T x) = [] := by
      intro f
      induction f with
      | zero => intro d R _; rfl
      | succ f ih =>
        intro d R hd
        rw [newest]
        split
        · rw [List.filter_append, ih (d - 1) _ (by omega)]
          split
          · have o : isOld life T (d - 1, min R (bkI bs (d - 1))) = true := decide_eq_true (by show d - 1 + life - 1 ≤ T; omega)
            simp only [List.filter_cons, List.filter_nil, o, Bool.not_true, Bool.false_eq_true, if_false, List.append_nil]
          · rfl
        · rfl
    rw [all f d R (by have : ((0 : Nat) : Int) = 0 := rfl; omega)]
    rfl
  | g + 1, 0, d, R, h, _, _ => absurd h (by omega)
  | g + 1, f + 1, d, R, h, h0, hT => by
    have sn := sumNew_nn gb g (d - 1)
    have bb := bkI_b gb (d - 1)
    have es : sumNew bs (g + 1) d = bkI bs (d - 1) + sumNew bs g (d - 1) := rfl
    rw [newest_succ gb h0, newest_succ gb (show 0 ≤ min R (sumNew bs (g + 1) d) by omega), List.filter_append, newest_young gb g f (d - 1) _ (by omega) (by omega) (by omega), es]
    have e1 : min (min R (bkI bs (d - 1) + sumNew bs g (d - 1))) (bkI bs (d - 1)) = min R (bkI bs (d - 1)) := by omega
    have e2 : min R (bkI bs (d - 1) + sumNew bs g (d - 1)) - min R (bkI bs (d - 1)) = min (R - min R (bkI bs (d - 1))) (sumNew bs g (d - 1)) := by omega
    rw [e1, e2]
    congr 1
    split
    · have o : isOld life T (d - 1, min R (bkI bs (d - 1))) = false := decide_eq_false (by show ¬ d - 1 + life - 1 ≤ T; omega)
      simp only [List.filter_cons, List.filter_nil, o, Bool.not_false, if_true]
    · rfl
theorem cntS_split (p : Int × Int → Bool) (l : List (Int × Int)) : cntS l = cntS (l.filter p) + cntS (l.filter fun x => !p x) := by
  induction l with
  | nil => rfl
  | cons x r ih =>
    have e : cntS (x :: r) = x.2 + cntS r := by unfold cntS; simp
    cases hp : p x with
    | true =>
      simp only [List.filter_cons, hp, if_true, Bool.not_true, Bool.false_eq_true, if_false]
      have e2 : cntS (x :: r.filter p) = x.2 + cntS (r.filter p) := by unfold cntS; simp
      rw [e, e2]; omega
    | false =>
      simp only [List.filter_cons, hp, if_true, Bool.not_false, Bool.false_eq_true, if_false]
      have e2 : cntS (x :: r.filter fun x => !p x) = x.2 + cntS (r.filter fun x => !p x) := by unfold cntS; simp
      rw [e, e2]; omega
/-- THE DAY: the loaves of day t and those of its bake, the oldest sold first, are the loaves of day t + 1 -/
theorem day_play (gd : Good bs ds) (l1 : 1 ≤ life) (t : Nat) :
    ((newest bs (life - 1).toNat (t : Int) (dayS bs ds (keepL bs life) t)).reverse ++ [((t : Int), bk bs t)]).foldl (play1 life (t : Int)) (dm bs ds t, [], 0) =
      (misS bs ds (keepL bs life) t, (newest bs (life - 1).toNat ((t : Int) + 1) (dayS bs ds (keepL bs life) (t + 1))).reverse, thrS bs ds (keepL bs life) t) := by
  have cm : CoM bs ds (keepL bs life) := ⟨gd, keepL_len, fun _ => keepL_nn gd.b0⟩
  have s0 := dayS_nn cm t
  have s1 := stock_new (life := life) gd t
  have b0 := getD_mem0 (i := t % bs.length) gd.b0
  have d0 := getD_mem0 (i := t % bs.length) gd.d0
  have eb : bkI bs ((t : Int) + 1 - 1) = bk bs t := by
    unfold bkI bk
    rw [show (t : Int) + 1 - 1 = (t : Int) by omega, (day_split t bs.length gd.n0).2]
  have d0' : 0 ≤ dm bs ds t := d0.1
  have b0' : 0 ≤ bk bs t := b0.1
  -- with the bake as one more of the newest, or nothing
  have add : ∀ s : Int × List (Int × Int) × Int, 0 ≤ s.1 → ((newest bs (life - 1).toNat (t : Int) (dayS bs ds (keepL bs life) t)).reverse ++ [((t : Int), bk bs t)]).foldl (play1 life (t : Int)) s =
      (newest bs ((life - 1).toNat + 1) ((t : Int) + 1) (dayS bs ds (keepL bs life) t + bk bs t)).reverse.foldl (play1 life (t : Int)) s := fun s hs => by
    rw [newest_succ gd.b0 (show 0 ≤ dayS bs ds (keepL bs life) t + bk bs t by omega), eb]
    have m1 : min (dayS bs ds (keepL bs life) t + bk bs t) (bk bs t) = bk bs t := by omega
    have m2 : (t : Int) + 1 - 1 = (t : Int) := by omega
    have m3 : dayS bs ds (keepL bs life) t + bk bs t - bk bs t = dayS bs ds (keepL bs life) t := by omega
    rw [m1, m2, m3, List.reverse_append]
    by_cases hb : 0 < bk bs t
    · rw [if_pos hb]; rfl
    · rw [if_neg hb, List.foldl_append]
      have z : bk bs t = 0 := by omega
      rw [z]
      have key : ∀ u : Int × List (Int × Int) × Int, 0 ≤ u.1 → play1 life (t : Int) u ((t : Int), 0) = u := fun u hu => by
        unfold play1
        simp only []
        have mz : min u.1 0 = 0 := by omega
        rw [mz]
        obtain ⟨u1, u2, u3⟩ := u
        split
        · show (u1 - 0, u2, u3 + 0 - 0) = _
          simp
        · rw [if_neg (by omega)]
          show (u1 - 0, u2, u3) = _
          simp
      have pn := play_newest (life := life) (T := (t : Int)) gd.b0 (life - 1).toNat (t : Int) (dayS bs ds (keepL bs life) t) s.1 s.2.1 s.2.2 s0 s1 hs
      show play1 life (t : Int) _ ((t : Int), 0) = _
      rw [key _ (by
        have e : s = (s.1, s.2.1, s.2.2) := rfl
        rw [e, pn]
        show 0 ≤ max 0 _
        omega), List.reverse_nil, List.append_nil]
  rw [add _ d0']
  have hN : dayS bs ds (keepL bs life) t + bk bs t ≤ sumNew bs ((life - 1).toNat + 1) ((t : Int) + 1) := by
    show _ ≤ bkI bs ((t : Int) + 1 - 1) + sumNew bs (life - 1).toNat ((t : Int) + 1 - 1)
    rw [eb, show (t : Int) + 1 - 1 = (t : Int) by omega]
    omega
  rw [play_newest gd.b0 _ _ _ _ _ _ (by omega) hN d0', List.nil_append, Int.zero_add]
  have hR : max 0 (dayS bs ds (keepL bs life) t + bk bs t - dm bs ds t) ≤ sumNew bs ((life - 1).toNat + 1) ((t : Int) + 1) := by omega
  have hsum := newest_sum gd.b0 _ _ _ (show 0 ≤ max 0 (dayS bs ds (keepL bs life) t + bk bs t - dm bs ds t) by omega) hR
  have hy := newest_young (life := life) (T := (t : Int)) gd.b0 (life - 1).toNat ((life - 1).toNat + 1) ((t : Int) + 1) (max 0 (dayS bs ds (keepL bs life) t + bk bs t - dm bs ds t)) (Nat.le_succ _) (by omega) (by omega)
  have eS : dayS bs ds (keepL bs life) (t + 1) = min (max 0 (dayS bs ds (keepL bs life) t + bk bs t - dm bs ds t)) (sumNew bs (life - 1).toNat ((t : Int) + 1)) := by
    rw [← keepAt_new, ← keepL_at (Nat.mod_lt t gd.n0)]; rfl
  have hsp := cntS_split (isOld life (t : Int)) (newest bs ((life - 1).toNat + 1) ((t : Int) + 1) (max 0 (dayS bs ds (keepL bs life) t + bk bs t - dm bs ds t)))
  rw [hy, ← eS] at hsp ⊢
  have k1 : dayS bs ds (keepL bs life) (t + 1) ≤ sumNew bs (life - 1).toNat ((t : Int) + 1) := by omega
  have k0 := dayS_nn cm (t + 1)
  rw [newest_sum gd.b0 _ _ _ k0 k1, hsum] at hsp
  have e1 : max 0 (dm bs ds t - (dayS bs ds (keepL bs life) t + bk bs t)) = misS bs ds (keepL bs life) t := by unfold misS; omega
  have e2 : cntS ((newest bs ((life - 1).toNat + 1) ((t : Int) + 1) (max 0 (dayS bs ds (keepL bs life) t + bk bs t - dm bs ds t))).filter (isOld life (t : Int))) = thrS bs ds (keepL bs life) t := by
    unfold thrS solS misS
    omega
  rw [e1, e2]
end
end Sw
namespace Sw
/-! ### a shelf by days: rows of what each day's baking has left -/
section
variable {bs ds : List Int} {life : Int}
def psb (bs : List Int) (j : Nat) : Int := psum (bk bs) j
theorem psb_s (j : Nat) : psb bs (j + 1) = psb bs j + bk bs j := rfl
theorem bk_b (gd : Good bs ds) (j : Nat) : 0 ≤ bk bs j := (getD_mem0 gd.b0).1
theorem dm_b (gd : Good bs ds) (j : Nat) : 0 ≤ dm bs ds j := (getD_mem0 gd.d0).1
theorem psb_mono (gd : Good bs ds) (i : Nat) : ∀ n, psb bs i ≤ psb bs (i + n)
  | 0 => Int.le_refl _
  | n + 1 => by
    have := psb_mono gd i n
    have := bk_b gd (i + n)
    have e : psb bs (i + (n + 1)) = psb bs (i + n) + bk bs (i + n) := rfl
    omega
theorem psb_le (gd : Good bs ds) {i j : Nat} (h : i ≤ j) : psb bs i ≤ psb bs j := by
  have := psb_mono gd i (j - i)
  rwa [show i + (j - i) = j by omega] at this
theorem bkI_nat (gd : Good bs ds) (t : Nat) : bkI bs (((t + 1 : Nat) : Int) - 1) = bk bs t := by
  unfold bkI bk
  rw [show ((t + 1 : Nat) : Int) - 1 = (t : Int) by omega, (day_split t bs.length gd.n0).2]
theorem sumNew_is (gd : Good bs ds) : ∀ (f t : Nat), f ≤ t → sumNew bs f (t : Int) = psb bs t - psb bs (t - f)
  | 0, t, _ => by show (0 : Int) = _; rw [Nat.sub_zero]; omega
  | f + 1, 0, h => absurd h (by omega)
  | f + 1, t + 1, h => by
    show bkI bs (((t + 1 : Nat) : Int) - 1) + sumNew bs f (((t + 1 : Nat) : Int) - 1) = _
    rw [bkI_nat gd, show ((t + 1 : Nat) : Int) - 1 = (t : Int) by omega, sumNew_is gd f t (by omega), psb_s, show t + 1 - (f + 1) = t - f by omega]
    omega
theorem sumNew_le (gd : Good bs ds) (d : Int) : ∀ (n f : Nat), sumNew bs f d ≤ sumNew bs (f + n) d
  | 0, f => Int.le_refl _
  | n + 1, f => by
    have h1 := sumNew_le gd d n f
    have e := sumNew_last (bs := bs) (f + n) d
    have b := (bkI_b gd.b0 (d - 1 - ((f + n : Nat) : Int))).1
    rw [show f + (n + 1) = f + n + 1 by omega]
    omega
/-- a day's loaves are of days from 0 on: what is left was baked -/
theorem stock_past0 (gd : Good bs ds) : ∀ t : Nat, dayS bs ds (keepL bs life) t ≤ sumNew bs t (t : Int)
  | 0 => Int.le_refl _
  | t + 1 => by
    have ih := stock_past0 gd t
    have cm : CoM bs ds (keepL bs life) := ⟨gd, keepL_len, fun _ => keepL_nn gd.b0⟩
    have d0 := getD_mem0 (i := t % bs.length) gd.d0
    have b0 := getD_mem0 (i := t % bs.length) gd.b0
    have s0 := dayS_nn cm t
    have eb : bkI bs (((t + 1 : Nat) : Int) - 1) = bs.getD (t % bs.length) 0 := by
      unfold bkI
      rw [show ((t + 1 : Nat) : Int) - 1 = (t : Int) by omega, (day_split t bs.length gd.n0).2]
    show stp _ _ _ _ ≤ bkI bs (((t + 1 : Nat) : Int) - 1) + sumNew bs t (((t + 1 : Nat) : Int) - 1)
    rw [eb, show ((t + 1 : Nat) : Int) - 1 = (t : Int) by omega]
    unfold stp
    omega
/-- what a day's end leaves -/
def topD (bs ds : List Int) (life : Int) (t : Nat) : Int := max 0 (dayS bs ds (keepL bs life) t + bk bs t - dm bs ds t)
theorem day_next (gd : Good bs ds) (l0 : 1 ≤ life) (t : Nat) : dayS bs ds (keepL bs life) (t + 1) = min (topD bs ds life t) (psb bs (t + 1) - psb bs (t + 2 - life.toNat)) := by
  have ek : (keepL bs life).getD (t % bs.length) 0 = sumNew bs (life - 1).toNat ((t : Int) + 1) := by rw [keepL_at (Nat.mod_lt t gd.n0), keepAt_new]
  have e : dayS bs ds (keepL bs life) (t + 1) = min (topD bs ds life t) (sumNew bs (life - 1).toNat ((t : Int) + 1)) := by
    rw [← ek]; rfl
  rw [e]
  by_cases h : (life - 1).toNat ≤ t + 1
  · have z := sumNew_is gd (life - 1).toNat (t + 1) h
    rw [show (((t + 1 : Nat)) : Int) = (t : Int) + 1 by omega] at z
    rw [z, show t + 1 - (life - 1).toNat = t + 2 - life.toNat by omega]
  · have z := sumNew_is gd (t + 1) (t + 1) (Nat.le_refl _)
    have z2 := sumNew_le gd ((t : Int) + 1) ((life - 1).toNat - (t + 1)) (t + 1)
    rw [show t + 1 + ((life - 1).toNat - (t + 1)) = (life - 1).toNat by omega] at z2
    rw [show (((t + 1 : Nat)) : Int) = (t : Int) + 1 by omega] at z
    have p := stock_past0 (life := life) gd t
    rw [sumNew_is gd t t (Nat.le_refl _)] at p
    have e0 : psb bs (t + 1 - (t + 1)) = 0 := by rw [Nat.sub_self]; rfl
    have e1 : psb bs (t - t) = 0 := by rw [Nat.sub_self]; rfl
    have e2 : psb bs (t + 2 - life.toNat) = 0 := by rw [show t + 2 - life.toNat = 0 by omega]; rfl
    have s := psb_s (bs := bs) t
    have d := dm_b gd t
    have bb := bk_b gd t
    have pp := psb_le gd (Nat.zero_le t)
    have p0 : psb bs 0 = 0 := rfl
    unfold topD
    omega
/-- how many loaves of day j and later ones -/
def from_ (bs ds : List Int) (life : Int) (t j : Nat) : Int := min (dayS bs ds (keepL bs life) t) (psb bs t - psb bs j)
def rowL (bs ds : List Int) (life : Int) (t j : Nat) : Int := from_ bs ds life t j - from_ bs ds life t (j + 1)
/-- the shelf when day t has baked: its rows, from day e on -/
def rowB (bs ds : List Int) (life : Int) (t e i : Nat) : Int := if e + i < t then rowL bs ds life t (e + i) else bk bs t
def rowS (bs ds : List Int) (life : Int) (t e i : Nat) : Int := rowB bs ds life t e i - min (max 0 (dm bs ds t - psum (rowB bs ds life t e) i)) (rowB bs ds life t e i)
theorem rowL_nn (gd : Good bs ds) (t j : Nat) : 0 ≤ rowL bs ds life t j := by
  have := psb_s (bs := bs) j
  have := bk_b gd j
  unfold rowL from_
  omega
theorem rowB_nn (gd : Good bs ds) (t e i : Nat) : 0 ≤ rowB bs ds life t e i := by
  unfold rowB
  split
  · exact rowL_nn gd _ _
  · exact bk_b gd t
section
variable {t e : Nat}
theorem rowB_sum (gd : Good bs ds) (he : e ≤ t) (hs : dayS bs ds (keepL bs life) t ≤ psb bs t - psb bs e) : ∀ i, e + i ≤ t + 1 →
    psum (rowB bs ds life t e) i = dayS bs ds (keepL bs life) t + bk bs t - min (dayS bs ds (keepL bs life) t + bk bs t) (psb bs (t + 1) - psb bs (e + i))
  | 0, _ => by
    have := psb_s (bs := bs) t
    show (0 : Int) = _
    rw [show e + 0 = e from rfl]; omega
  | i + 1, h => by
    have ih := rowB_sum gd he hs i (by omega)
    have s0 := dayS_nn (⟨gd, keepL_len, fun _ => keepL_nn gd.b0⟩ : CoM bs ds (keepL bs life)) t
    have b0 := bk_b gd t
    show psum _ i + rowB bs ds life t e i = _
    have s1 := psb_s (bs := bs) t
    have s2 := psb_s (bs := bs) (e + i)
    have b2 := bk_b gd (e + i)
    rw [ih, show e + (i + 1) = e + i + 1 by omega]
    unfold rowB
    by_cases h1 : e + i < t
    · rw [if_pos h1]
      have m := psb_le gd (show e + i + 1 ≤ t by omega)
      unfold rowL from_
      omega
    · rw [if_neg h1]
      have e1 : e + i = t := by omega
      rw [e1] at s2 ⊢
      omega
theorem rowS_is (gd : Good bs ds) (he : e ≤ t) (hs : dayS bs ds (keepL bs life) t ≤ psb bs t - psb bs e) (i : Nat) (hi : e + i ≤ t) :
    rowS bs ds life t e i = min (topD bs ds life t) (psb bs (t + 1) - psb bs (e + i)) - min (topD bs ds life t) (psb bs (t + 1) - psb bs (e + i + 1)) := by
  have a := rowB_sum gd he hs i (by omega)
  have b := rowB_sum gd he hs (i + 1) (by omega)
  have s : psum (rowB bs ds life t e) (i + 1) = psum (rowB bs ds life t e) i + rowB bs ds life t e i := rfl
  rw [show e + (i + 1) = e + i + 1 by omega] at b
  have d := dm_b gd t
  have s2 := psb_s (bs := bs) (e + i)
  have b2 := bk_b gd (e + i)
  have m := psb_le gd (show e + i + 1 ≤ t + 1 by omega)
  have s0 := dayS_nn (⟨gd, keepL_len, fun _ => keepL_nn gd.b0⟩ : CoM bs ds (keepL bs life)) t
  unfold rowS topD
  rw [a]
  generalize rowB bs ds life t e i = r at *
  generalize psum (rowB bs ds life t e) i = u at *
  generalize psum (rowB bs ds life t e) (i + 1) = u' at *
  omega
theorem rowS_nn (gd : Good bs ds) (t e i : Nat) : 0 ≤ rowS bs ds life t e i := by
  have := rowB_nn (life := life) gd t e i
  unfold rowS
  omega
theorem rowS_sum (gd : Good bs ds) (he : e ≤ t) (hs : dayS bs ds (keepL bs life) t ≤ psb bs t - psb bs e) : ∀ k, e + k ≤ t + 1 →
    psum (rowS bs ds life t e) k = topD bs ds life t - min (topD bs ds life t) (psb bs (t + 1) - psb bs (e + k))
  | 0, _ => by
    have := psb_s (bs := bs) t
    have d := dm_b gd t
    have bb := bk_b gd t
    have m := psb_le gd he
    show (0 : Int) = _
    rw [show e + 0 = e from rfl]
    unfold topD
    omega
  | k + 1, h => by
    show psum _ k + _ = _
    rw [rowS_sum gd he hs k (by omega), rowS_is gd he hs k (by omega), show e + (k + 1) = e + k + 1 by omega]
    omega
/-- a day, sold -/
theorem day_sold (gd : Good bs ds) (he : e ≤ t) (hs : dayS bs ds (keepL bs life) t ≤ psb bs t - psb bs e) :
    dm bs ds t - max 0 (dm bs ds t - psum (rowB bs ds life t e) (t + 1 - e)) = solS bs ds (keepL bs life) t := by
  have a := rowB_sum gd he hs (t + 1 - e) (by omega)
  rw [show e + (t + 1 - e) = t + 1 by omega] at a
  have s0 := dayS_nn (⟨gd, keepL_len, fun _ => keepL_nn gd.b0⟩ : CoM bs ds (keepL bs life)) t
  have b0 := bk_b gd t
  unfold solS misS
  rw [a]; omega
/-- a day, closed: k rows go -/
theorem day_closed (gd : Good bs ds) (l0 : 1 ≤ life) (he : e ≤ t) (hs : dayS bs ds (keepL bs life) t ≤ psb bs t - psb bs e) {k : Nat} (hk : k ≤ t + 1 - e)
    (h1 : ∀ i, i < k → life ≤ ((t - e : Nat) : Int) + 1 - (i : Int) ∨ rowS bs ds life t e i = 0) (h2 : k < t + 1 - e → ¬ (life ≤ ((t - e : Nat) : Int) + 1 - (k : Int))) :
    psum (rowS bs ds life t e) k = thrS bs ds (keepL bs life) t ∧ dayS bs ds (keepL bs life) (t + 1) ≤ psb bs (t + 1) - psb bs (e + k) ∧ ∀ i, e + k + i < t + 1 → rowS bs ds life t e (k + i) = rowL bs ds life (t + 1) (e + k + i) := by
  have n := day_next gd l0 t (life := life)
  have sm := rowS_sum gd he hs k (by omega)
  have ge : t + 2 - life.toNat ≤ e + k := by
    by_cases z : k < t + 1 - e
    · have := h2 z; omega
    · omega
  have go : ∀ m, t + 2 - life.toNat + m ≤ e + k → e ≤ t + 2 - life.toNat + m → min (topD bs ds life t) (psb bs (t + 1) - psb bs (e + k)) = min (topD bs ds life t) (psb bs (t + 1) - psb bs (t + 2 - life.toNat + m)) := by
    intro m
    generalize hr : e + k - (t + 2 - life.toNat + m) = r
    induction r generalizing m with
    | zero => intro a b; rw [show t + 2 - life.toNat + m = e + k by omega]
    | succ r ih =>
      intro a b
      rw [ih (m + 1) (by omega) (by omega) (by omega)]
      have z := h1 (t + 2 - life.toNat + m - e) (by omega)
      have w := rowS_is gd he hs (t + 2 - life.toNat + m - e) (by omega)
      rw [show e + (t + 2 - life.toNat + m - e) = t + 2 - life.toNat + m by omega] at w
      rcases z with z | z
      · omega
      · rw [show t + 2 - life.toNat + (m + 1) = t + 2 - life.toNat + m + 1 by omega]
        omega
  have eq : min (topD bs ds life t) (psb bs (t + 1) - psb bs (e + k)) = dayS bs ds (keepL bs life) (t + 1) := by
    rw [n]
    by_cases z : e ≤ t + 2 - life.toNat
    · exact go 0 (by omega) (by omega)
    · have q := go (e - (t + 2 - life.toNat)) (by omega) (by omega)
      rw [show t + 2 - life.toNat + (e - (t + 2 - life.toNat)) = e by omega] at q
      rw [q]
      have m := psb_le gd (show t + 2 - life.toNat ≤ e by omega)
      have s := psb_s (bs := bs) t
      have d := dm_b gd t
      have bb := bk_b gd t
      have m2 := psb_le gd he
      unfold topD
      omega
  have s0 := dayS_nn (⟨gd, keepL_len, fun _ => keepL_nn gd.b0⟩ : CoM bs ds (keepL bs life)) t
  have b0 := bk_b gd t
  have d0 := dm_b gd t
  refine ⟨?_, by omega, fun i hi => ?_⟩
  · rw [sm, eq]
    unfold thrS solS misS topD
    omega
  · have w := rowS_is gd he hs (k + i) (by omega)
    rw [show e + (k + i) = e + k + i by omega] at w
    have m1 := psb_le gd (show e + k ≤ e + k + i by omega)
    have m2 := psb_le gd (show e + k ≤ e + k + i + 1 by omega)
    rw [w]
    unfold rowL from_
    omega
end
end
end Sw
namespace Sw
/-! ### other orders sell no more -/
section
variable {bs ds : List Int} {life S S' : Int} {t : Nat} {l l1 l2 : List (Int × Int)}
def cntJ : List (Int × Int) → Int → Int
  | [], _ => 0
  | p :: r, j => (if j ≤ p.1 then p.2 else 0) + cntJ r j
def totJ : List (Int × Int) → Int
  | [] => 0
  | p :: r => p.2 + totJ r
theorem cntJ_nn : ∀ {l : List (Int × Int)}, (∀ p ∈ l, 0 ≤ p.2) → ∀ j, 0 ≤ cntJ l j
  | [], _, _ => Int.le_refl _
  | p :: r, h, j => by
    have h1 := h p List.mem_cons_self
    have h2 := cntJ_nn (fun q hq => h q (List.mem_cons_of_mem _ hq)) j
    unfold cntJ
    split <;> omega
theorem cntJ_le : ∀ {l : List (Int × Int)}, (∀ p ∈ l, 0 ≤ p.2) → ∀ j, cntJ l j ≤ totJ l
  | [], _, _ => Int.le_refl _
  | p :: r, h, j => by
    have h1 := h p List.mem_cons_self
    have h2 := cntJ_le (fun q hq => h q (List.mem_cons_of_mem _ hq)) j
    unfold cntJ totJ
    split <;> omega
theorem totJ_at : ∀ {l : List (Int × Int)} {e : Int}, (∀ p ∈ l, p.1 < e → p.2 = 0) → totJ l = cntJ l e
  | [], _, _ => rfl
  | p :: r, e, h => by
    have h1 := h p List.mem_cons_self
    have h2 := totJ_at (e := e) (fun q hq => h q (List.mem_cons_of_mem _ hq))
    unfold cntJ totJ
    split
    · omega
    · have := h1 (by omega); omega
theorem cntJ_none : ∀ {l : List (Int × Int)} {e : Int}, (∀ p ∈ l, p.1 < e) → cntJ l e = 0
  | [], _, _ => rfl
  | p :: r, e, h => by
    have h1 := h p List.mem_cons_self
    have h2 := cntJ_none (e := e) (fun q hq => h q (List.mem_cons_of_mem _ hq))
    unfold cntJ
    rw [if_neg (by omega), h2]; rfl
/-- what another order has sold, and its shelf, at the beginning of day t -/
structure OInv (bs ds : List Int) (life : Int) (t : Nat) (S : Int) (l : List (Int × Int)) : Prop where
  nn : ∀ p ∈ l, 0 ≤ p.2
  day : ∀ p ∈ l, p.1 < (t : Int)
  dead : ∀ p ∈ l, p.1 < (t : Int) + 1 - life → p.2 = 0
  neg : ∀ p ∈ l, p.1 < 0 → p.2 = 0
  le : ∀ j : Nat, (t : Int) + 1 - life ≤ (j : Int) → j ≤ t → S + cntJ l (j : Int) ≤ psum (solS bs ds (keepL bs life)) t + from_ bs ds life t j
theorem order_start (l0 : 1 ≤ life) (h : ∀ p ∈ l, p.2 = 0) (hd : ∀ p ∈ l, p.1 < 0) : OInv bs ds life 0 0 l :=
  ⟨fun p hp => by rw [h p hp]; exact Int.le_refl _, fun p hp => hd p hp, fun p hp _ => h p hp, fun p hp _ => h p hp, fun j _ hj => by
    have : j = 0 := by omega
    subst this
    have e := cntJ_none (l := l) (e := ((0 : Nat) : Int)) (fun p hp => hd p hp)
    rw [e]
    show (0 : Int) + 0 ≤ 0 + min 0 (0 - 0)
    omega⟩
theorem order_end (l0 : 1 ≤ life) (I : OInv bs ds life t S l) : S ≤ psum (solS bs ds (keepL bs life)) t := by
  have a := I.le t (by omega) (Nat.le_refl _)
  have b := cntJ_nn I.nn (t : Int)
  unfold from_ at a
  omega
theorem order_day (gd : Good bs ds) (l0 : 1 ≤ life) (I : OInv bs ds life t S l) (nn1 : ∀ p ∈ l1, 0 ≤ p.2) (h1 : S' + totJ l1 ≤ S + totJ l + bk bs t) (h2 : ∀ j : Nat, j ≤ t → S' + cntJ l1 (j : Int) ≤ S + cntJ l (j : Int) + bk bs t + dm bs ds t) (h3 : S' ≤ S + dm bs ds t)
    (nn : ∀ p ∈ l2, 0 ≤ p.2) (day : ∀ p ∈ l2, p.1 < (t : Int) + 1) (dead : ∀ p ∈ l2, p.1 < (t : Int) + 2 - life → p.2 = 0) (neg : ∀ p ∈ l2, p.1 < 0 → p.2 = 0) (hc : ∀ j : Nat, cntJ l2 (j : Int) ≤ cntJ l1 (j : Int)) : OInv bs ds life (t + 1) S' l2 := by
  refine ⟨nn, fun p hp => by have := day p hp; omega, fun p hp h => dead p hp (by omega), neg, fun j hj hjt => ?_⟩
  have cm : CoM bs ds (keepL bs life) := ⟨gd, keepL_len, fun _ => keepL_nn gd.b0⟩
  have s0 := dayS_nn cm t
  have b0 := bk_b gd t
  have d0 := dm_b gd t
  have sP := psb_s (bs := bs) t
  have dn := day_next gd l0 t (life := life)
  have e0 : totJ l = cntJ l (((t + 1 - life.toNat : Nat)) : Int) := totJ_at fun p hp h => by
    by_cases z : p.1 < 0
    · exact I.neg p hp z
    · exact I.dead p hp (by omega)
  have a0 := I.le (t + 1 - life.toNat) (by omega) (by omega)
  have hS : psum (solS bs ds (keepL bs life)) (t + 1) = psum (solS bs ds (keepL bs life)) t + solS bs ds (keepL bs life) t := rfl
  have hs : solS bs ds (keepL bs life) t = dm bs ds t - max 0 (dm bs ds t - dayS bs ds (keepL bs life) t - bk bs t) := rfl
  have c2 := hc j
  have c1 := cntJ_le nn1 (j : Int)
  have cz := cntJ_nn nn1 (j : Int)
  have p1 := psb_le gd (show t + 2 - life.toNat ≤ j by omega)
  have p2 := psb_le gd hjt
  have X1 : S' + totJ l1 ≤ psum (solS bs ds (keepL bs life)) t + dayS bs ds (keepL bs life) t + bk bs t := by
    unfold from_ at a0
    omega
  have hT : topD bs ds life t = max 0 (dayS bs ds (keepL bs life) t + bk bs t - dm bs ds t) := rfl
  rw [hS]
  by_cases z : j ≤ t
  · have a := I.le j (by omega) z
    have b := h2 j z
    unfold from_ at a ⊢
    rw [dn, hT]
    generalize psb bs (t + 2 - life.toNat) = pe at *
    omega
  · have ej : j = t + 1 := by omega
    subst ej
    have e2 : cntJ l2 (((t + 1 : Nat)) : Int) = 0 := cntJ_none fun p hp => by have := day p hp; omega
    have a := I.le t (by omega) (Nat.le_refl _)
    have an := cntJ_nn I.nn (t : Int)
    unfold from_ at a ⊢
    rw [e2, dn, hT]
    generalize psb bs (t + 2 - life.toNat) = pe at *
    omega
theorem dropL_mem {α : Type} {a : α} {xs : List α} (h : a ∈ xs.dropLast) : a ∈ xs := List.dropLast_subset xs h
/-! the newest first -/
def sellL : List Int → Int → List Int
  | [], _ => []
  | c :: cs, q => (c - min c q) :: sellL cs (q - min c q)
theorem sellL_len : ∀ (cs : List Int) (q : Int), (sellL cs q).length = cs.length
  | [], _ => rfl
  | c :: cs, q => by show (sellL cs _).length + 1 = cs.length + 1; rw [sellL_len]
theorem sellL_nn : ∀ (cs : List Int) (q : Int), (∀ c ∈ cs, 0 ≤ c) → ∀ c ∈ sellL cs q, 0 ≤ c
  | [], _, _, _, h => by cases h
  | c :: cs, q, hn, x, hx => by
    rcases List.mem_cons.mp hx with e | e
    · rw [e]; have := hn c List.mem_cons_self; omega
    · exact sellL_nn cs _ (fun y hy => hn y (List.mem_cons_of_mem _ hy)) x e
theorem sellL_sum : ∀ (cs : List Int) (q : Int), 0 ≤ q → (∀ c ∈ cs, 0 ≤ c) → (sellL cs q).sum ≤ cs.sum ∧ cs.sum - (sellL cs q).sum ≤ q
  | [], q, h, _ => by simp [sellL]; exact h
  | c :: cs, q, h, hn => by
    have c0 := hn c List.mem_cons_self
    have ih := sellL_sum cs (q - min c q) (by omega) (fun y hy => hn y (List.mem_cons_of_mem _ hy))
    unfold sellL
    simp only [List.sum_cons]
    omega
def zipD (t : Int) : List Int → List (Int × Int)
  | [] => []
  | c :: cs => (t, c) :: zipD (t - 1) cs
theorem zipD_mem : ∀ {t : Int} {cs : List Int} {p : Int × Int}, p ∈ zipD t cs → p.1 ≤ t ∧ t - cs.length < p.1 ∧ p.2 ∈ cs
  | _, [], _, h => by cases h
  | t, c :: cs, p, h => by
    rcases List.mem_cons.mp h with e | e
    · subst e; exact ⟨Int.le_refl _, by rw [List.length_cons]; omega, List.mem_cons_self⟩
    · have := zipD_mem e
      exact ⟨by omega, by rw [List.length_cons]; omega, List.mem_cons_of_mem _ this.2.2⟩
theorem zipD_tot : ∀ {t : Int} {cs : List Int}, totJ (zipD t cs) = cs.sum
  | _, [] => rfl
  | t, c :: cs => by show c + totJ _ = _; rw [zipD_tot, List.sum_cons]
theorem zipD_cnt : ∀ {cs : List Int} {q t j : Int}, 0 ≤ q → (∀ c ∈ cs, 0 ≤ c) → cntJ (zipD t (sellL cs q)) j ≤ cntJ (zipD t cs) j
  | [], _, _, _, _, _ => Int.le_refl _
  | c :: cs, q, t, j, h, hn => by
    have c0 := hn c List.mem_cons_self
    have ih := zipD_cnt (cs := cs) (q := q - min c q) (t := t - 1) (j := j) (by omega) (fun y hy => hn y (List.mem_cons_of_mem _ hy))
    show (if j ≤ t then c - min c q else 0) + _ ≤ (if j ≤ t then c else 0) + _
    split <;> omega
theorem zipD_drop : ∀ {cs : List Int} {t j : Int}, (∀ c ∈ cs, 0 ≤ c) → cntJ (zipD t cs.dropLast) j ≤ cntJ (zipD t cs) j
  | [], _, _, _ => Int.le_refl _
  | [c], t, j, hn => by
    have := hn c List.mem_cons_self
    show (0 : Int) ≤ (if j ≤ t then c else 0) + 0
    split <;> omega
  | c :: d :: cs, t, j, hn => by
    have ih := zipD_drop (cs := d :: cs) (t := t - 1) (j := j) (fun y hy => hn y (List.mem_cons_of_mem _ hy))
    show (if j ≤ t then c else 0) + cntJ (zipD (t - 1) (d :: cs).dropLast) j ≤ (if j ≤ t then c else 0) + _
    omega
/-- what the newest-first order has left by age after so many days -/
def nwL (bs ds : List Int) (life : Int) : Nat → List Int
  | 0 => List.replicate life.toNat 0
  | t + 1 => sellL (bk bs t :: (nwL bs ds life t).dropLast) (dm bs ds t)
def nwC (bs ds : List Int) (life : Int) (t : Nat) : List Int := bk bs t :: (nwL bs ds life t).dropLast
def nwS (bs ds : List Int) (life : Int) (t : Nat) : Int := (nwC bs ds life t).sum - (nwL bs ds life (t + 1)).sum
theorem nwL_len (l0 : 1 ≤ life) : ∀ t, (nwL bs ds life t).length = life.toNat
  | 0 => by unfold nwL; rw [List.length_replicate]
  | t + 1 => by
    show (sellL _ _).length = _
    rw [sellL_len, List.length_cons, List.length_dropLast, nwL_len l0 t]
    omega
theorem nwL_nn (gd : Good bs ds) : ∀ t, ∀ c ∈ nwL bs ds life t, 0 ≤ c
  | 0, c, h => by
    unfold nwL at h
    rw [(List.mem_replicate.mp h).2]; exact Int.le_refl _
  | t + 1, c, h => by
    refine sellL_nn _ _ (fun x hx => ?_) c h
    rcases List.mem_cons.mp hx with e | e
    · rw [e]; exact bk_b gd t
    · exact nwL_nn gd t x (dropL_mem e)
theorem nwC_nn (gd : Good bs ds) (t : Nat) : ∀ c ∈ nwC bs ds life t, 0 ≤ c := fun x hx => by
  rcases List.mem_cons.mp hx with e | e
  · rw [e]; exact bk_b gd t
  · exact nwL_nn gd t x (dropL_mem e)
/-- no loaves of days before the first -/
theorem nwL_neg (l0 : 1 ≤ life) (gd : Good bs ds) : ∀ t : Nat, ∀ p ∈ zipD ((t : Int) - 1) (nwL bs ds life t), p.1 < 0 → p.2 = 0
  | 0, p, hp, _ => by
    have := (zipD_mem hp).2.2
    unfold nwL at this
    exact (List.mem_replicate.mp this).2
  | t + 1, p, hp, hneg => by
    have key : ∀ (cs : List Int) (q a : Int), 0 ≤ q → (∀ c ∈ cs, 0 ≤ c) → (∀ p ∈ zipD a cs, p.1 < 0 → p.2 = 0) → ∀ p ∈ zipD a (sellL cs q), p.1 < 0 → p.2 = 0 := by
      intro cs
      induction cs with
      | nil => intro q a _ _ _ p hp; cases hp
      | cons c cs ih =>
        intro q a hq hn h p hp hneg
        have c0 := hn c List.mem_cons_self
        rcases List.mem_cons.mp hp with e | e
        · subst e
          have : c = 0 := h (a, c) List.mem_cons_self hneg
          show c - min c q = 0
          omega
        · exact ih _ _ (by omega) (fun y hy => hn y (List.mem_cons_of_mem _ hy)) (fun p hp => h p (List.mem_cons_of_mem _ hp)) p e hneg
    have dl : ∀ (cs : List Int) (a : Int) (p : Int × Int), p ∈ zipD a cs.dropLast → p ∈ zipD a cs := by
      intro cs
      induction cs with
      | nil => intro a p hp; cases hp
      | cons c cs ih =>
        intro a p hp
        cases cs with
        | nil => cases hp
        | cons d cs =>
          rcases List.mem_cons.mp hp with e | e
          · exact List.mem_cons.mpr (.inl e)
          · exact List.mem_cons_of_mem _ (ih _ _ e)
    have e1 : (((t + 1 : Nat) : Int) - 1) = (t : Int) := by omega
    rw [e1] at hp
    refine key _ _ _ (dm_b gd t) (nwC_nn gd t) (fun p hp hneg => ?_) p hp hneg
    rcases List.mem_cons.mp hp with e | e
    · subst e
      have hneg : (t : Int) < 0 := hneg
      omega
    · exact nwL_neg l0 gd t p (dl _ _ _ e) hneg
theorem zipD_sub : ∀ {cs : List Int} {a : Int} {p : Int × Int}, p ∈ zipD a cs.dropLast → p ∈ zipD a cs
  | [], _, _, h => by cases h
  | [_], _, _, h => by cases h
  | c :: d :: cs, a, p, h => by
    rcases List.mem_cons.mp h with e | e
    · exact List.mem_cons.mpr (.inl e)
    · exact List.mem_cons_of_mem _ (zipD_sub e)
theorem newest_inv (gd : Good bs ds) (l0 : 1 ≤ life) : ∀ t : Nat, OInv bs ds life t (psum (nwS bs ds life) t) (zipD ((t : Int) - 1) (nwL bs ds life t).dropLast)
  | 0 => order_start l0 (fun p hp => by
      have := dropL_mem (zipD_mem hp).2.2
      unfold nwL at this
      exact (List.mem_replicate.mp this).2) fun p hp => by have := (zipD_mem hp).1; omega
  | t + 1 => by
    have I := newest_inv gd l0 t
    have cn := nwC_nn (life := life) gd t
    have d0 := dm_b gd t
    have b0 := bk_b gd t
    have ss := sellL_sum _ _ d0 cn
    have eS : psum (nwS bs ds life) (t + 1) = psum (nwS bs ds life) t + nwS bs ds life t := rfl
    have eN : nwL bs ds life (t + 1) = sellL (nwC bs ds life t) (dm bs ds t) := rfl
    have eW : nwS bs ds life t = (nwC bs ds life t).sum - (sellL (nwC bs ds life t) (dm bs ds t)).sum := rfl
    have eC : (nwC bs ds life t).sum = bk bs t + (nwL bs ds life t).dropLast.sum := List.sum_cons
    have e1 : (((t + 1 : Nat) : Int) - 1) = (t : Int) := by omega
    have nn1 := nwL_nn (life := life) gd (t + 1)
    have ng := nwL_neg l0 gd (t + 1) (bs := bs) (ds := ds) (life := life)
    rw [e1] at ng ⊢
    refine order_day gd l0 I (l1 := zipD (t : Int) (nwL bs ds life (t + 1))) (fun p hp => nn1 _ (zipD_mem hp).2.2) ?_ (fun j hj => ?_) (by rw [eS, eW]; omega) (fun p hp => nn1 _ (dropL_mem (zipD_mem hp).2.2)) (fun p hp => by have := (zipD_mem hp).1; omega) (fun p hp h => ?_) (fun p hp h => ng p (zipD_sub hp) h) (fun j => zipD_drop nn1)
    · rw [zipD_tot, zipD_tot, eS, eW, eN]; omega
    · have c := zipD_cnt (t := (t : Int)) (j := (j : Int)) d0 cn
      have e2 : cntJ (zipD (t : Int) (nwC bs ds life t)) (j : Int) = bk bs t + cntJ (zipD ((t : Int) - 1) (nwL bs ds life t).dropLast) (j : Int) := by
        show (if (j : Int) ≤ (t : Int) then bk bs t else 0) + _ = _
        rw [if_pos (by omega)]
      rw [eS, eW, eN]
      omega
    · have z := (zipD_mem hp).2.1
      rw [List.length_dropLast, nwL_len l0] at z
      omega
end
end Sw
namespace Sw
open PySem PySem.Spec PyProof.Rows L2 Evl
local macro_rules | `(tactic| walk_at "ev") => `(tactic| first
  | exact ev_c
  | exact ev_var rfl
  | ((with_reducible show Ev (tCB rMax2 _) _ _ _); exact ev_maxi (by walk_at "ev") (by walk_at "ev"))
  | ((with_reducible show Ev (tCB rMn _) _ _ _); exact ev_min2 (by walk_at "ev") (by walk_at "ev"))
  | ((with_reducible show Ev (tUn _ _) _ _ _); exact ev_un (by walk_at "ev") ru_neg)
  | ((with_reducible show Ev (tFld _ _ _) _ _ _); exact ev_fldK (by walk_at "ev") (by assumption))
  | ((with_reducible show Ev (tOp (rI0 _) _ _) _ _ _); exact ev_op (by walk_at "ev") (by walk_at "ev") rv_I0)
  | ((with_reducible show Ev (tOp rEq _ _) _ _ _); exact ev_op (by walk_at "ev") (by walk_at "ev") (rv_eq rfl))
  | ((with_reducible show Ev (tOp rNe _ _) _ _ _); exact ev_op (by walk_at "ev") (by walk_at "ev") (rv_ne rfl)))

variable {P : Program} {w : World} {K : PySem.W.Frag} {mg : Str → Option Value} {base : Heap} {Z : Ad}
def sp_Bdem (K : PySem.W.Frag) (Z : Ad) : Sp := fun vs H Q _ => ∃ (b : Addr) (bs ds : List Int) (life : Int) (i : Nat), vs = [.ref b] ∧ BakAt K Z H b bs ds life i ∧ ∀ p H', Ex H H' → SqT K H' p (ds.map V.int) → Q (.ref p) H'
theorem ok_Bakery_demands (T : Txt K mg Z) : FnOk P w K mg base CX0 1 Z.f_Bakery_demands Z.d_Bakery_demands p_Bakery_demands (sp_Bdem K Z) := by
  refine T.F_Bakery_demands.ok sc_Bakery_demands (fun vs H Q E h => ?_) (fun cdv Ar outer s H vs Q E hr h => ?_)
  · obtain ⟨b, bs, ds, life, i, rfl, _⟩ := h
    rfl
  · obtain ⟨b, bs, ds, life, i, rfl, hB, k⟩ := h
    obtain ⟨tl, fl, hl⟩ := hB.fd
    refine ⟨_, (pss_one (ps_ret (pe_fldK K rfl (pv 0) rfl))), ?_⟩
    exact s_ret (by walk_at "ev") fun H1 e1 => k tl H1 e1 (ex_t e1 hl)
def sp_Blife (K : PySem.W.Frag) (Z : Ad) : Sp := fun vs H Q _ => ∃ (b : Addr) (bs ds : List Int) (life : Int) (i : Nat), vs = [.ref b] ∧ BakAt K Z H b bs ds life i ∧ RetV (.int life) H Q
theorem ok_Bakery_life (T : Txt K mg Z) : FnOk P w K mg base CX0 1 Z.f_Bakery_life Z.d_Bakery_life p_Bakery_life (sp_Blife K Z) := by
  refine T.F_Bakery_life.ok sc_Bakery_life (fun vs H Q E h => ?_) (fun cdv Ar outer s H vs Q E hr h => ?_)
  · obtain ⟨b, bs, ds, life, i, rfl, _⟩ := h
    rfl
  · obtain ⟨b, bs, ds, life, i, rfl, hB, k⟩ := h
    have fl := hB.fl
    refine ⟨_, (pss_one (ps_ret (pe_fldK K rfl (pv 0) rfl))), ?_⟩
    exact s_ret (by walk_at "ev") fun H1 e1 => k H1 e1
section
variable {σ : L2.St} {H H' : Hp} {ta tb te : TE} {b a : Addr} {bs ds cs ns : List Int} {life q : Int} {i m : Nat} {E : XK} {xs ys : List V} {v : V} {D : Ends} {tz : TS}
theorem ew_bks (h : Ev ta σ H (.ref b)) (hB : BakAt K Z H b bs ds life i) : EvW K (tProp Z.c_Bakery (sp_Bbakes K Z) [] E ta) σ H (bs.map V.int) := fun H1 e Q q =>
  h H1 e _ fun H2 e2 => let ⟨dx, fs, h1⟩ := hB.inst; ⟨b, dx, fs, rfl, e2 _ _ (e _ _ h1), b, bs, ds, life, i, rfl, hB.mono (e.trans e2), fun p H3 e3 h3 => q p H3 (e2.trans e3) h3⟩
theorem ew_dms (h : Ev ta σ H (.ref b)) (hB : BakAt K Z H b bs ds life i) : EvW K (tProp Z.c_Bakery (sp_Bdem K Z) [] E ta) σ H (ds.map V.int) := fun H1 e Q q =>
  h H1 e _ fun H2 e2 => let ⟨dx, fs, h1⟩ := hB.inst; ⟨b, dx, fs, rfl, e2 _ _ (e _ _ h1), b, bs, ds, life, i, rfl, hB.mono (e.trans e2), fun p H3 e3 h3 => q p H3 (e2.trans e3) h3⟩
theorem ev_ixW7 {j : Int} (h : EvW K ta σ H xs) (hb : Ev tb σ H (.int j)) (ha : atI xs j = some v) : Ev (tOp (rIxT K) ta tb) σ H v := fun H1 e Q q =>
  h H1 e _ fun p H2 e2 h2 => hb H2 (e.trans e2) _ fun H3 e3 => ⟨p, xs, j, v, rfl, rfl, ex_t e3 h2, ha, q H3 (e2.trans e3)⟩
theorem el_cat2 (ha : EvL ta σ H xs) (hb : EvL tb σ H ys) (hz : xs.length + ys.length ≤ 100000) : EvL (tOp rCat ta tb) σ H (xs ++ ys) := fun H1 e Q k =>
  ha H1 e _ fun p H2 _ e2 h2 => hb H2 (e.trans e2) _ fun r H3 _ e3 h3 => ⟨p, r, xs, ys, rfl, rfl, e3 _ _ h2, h3, sz_of hz, fun s hs => k s _ (fresh_back (e2.trans e3) hs) ((e2.trans e3).trans (Ex.new hs)) upd_same⟩
theorem el_rep1 {n : Int} (ha : EvL ta σ H [v]) (hb : Ev tb σ H (.int n)) (h0 : 0 ≤ n) (h1 : n ≤ 1000) : EvL (tOp rRep ta tb) σ H (List.replicate n.toNat v) := fun H1 e Q k =>
  ha H1 e _ fun p H2 _ e2 h2 => hb H2 (e.trans e2) _ fun H3 e3 => ⟨p, n, [v], rfl, rfl, e3 _ _ h2, by omega, by omega, by have := sizeLine_eq; show 1 * n.toNat ≤ sizeLine; omega, fun s hs => k s _ (fresh_back (e2.trans e3) hs) ((e2.trans e3).trans (Ex.new hs)) (by
    rw [upd_same]
    have z : (List.replicate n.toNat [v]).flatten = List.replicate n.toNat v := by
      generalize n.toNat = m
      induction m with
      | zero => rfl
      | succ m ih => rw [List.replicate_succ, List.flatten_cons, ih, List.replicate_succ]; rfl
    rw [z])⟩
theorem el_eq (h : EvL te σ H xs) (e : xs = ys) : EvL te σ H ys := e ▸ h
theorem q_asg3n {j o k : Nat} (h : Ev te σ H v) (c : ∀ H1, Ex H H1 → tz D (((σ.set j (some v)).set o (some v)).set k (some v)) H1) : tSeq (tAsg3 te (gName j) (gName o) (gName k)) tz D σ H := h H (Ex.refl _) _ fun H1 e => c H1 e
theorem cut_last {xs : List V} : cutV xs none (some (-1)) = xs.dropLast := by
  unfold cutV
  have e : HT.sIx xs.length xs.length (some (-1)) = xs.length - 1 := by
    unfold HT.sIx
    simp
    omega
  rw [HT.sIx_none, e, List.drop_zero, Nat.sub_zero, List.dropLast_eq_take]
end
/-! ### selling in the order of a list -/
def remL : List Int → Int → Int
  | [], q => q
  | c :: cs, q => remL cs (q - min c q)
theorem remL_snoc : ∀ (cs : List Int) (c q : Int), remL (cs ++ [c]) q = remL cs q - min c (remL cs q)
  | [], _, _ => rfl
  | d :: cs, c, q => by show remL (cs ++ [c]) _ = _; rw [remL_snoc cs]; rfl
theorem sellL_snoc : ∀ (cs : List Int) (c q : Int), sellL (cs ++ [c]) q = sellL cs q ++ [c - min c (remL cs q)]
  | [], _, _ => rfl
  | d :: cs, c, q => by
    show (d - min d q) :: sellL (cs ++ [c]) _ = _
    rw [sellL_snoc cs]; rfl
def sp_sell (K : PySem.W.Frag) : Sp := fun vs H Q _ => ∃ (a : Addr) (cs : List Int) (q : Int), vs = [.ref a, .int q] ∧ SqL K H a (cs.map V.int) ∧ cs.length ≤ 1000 ∧ ∀ p H', H p = none → Ex H H' → H' p = some (.lst ((sellL cs q).map V.int)) → Q (.ref p) H'
theorem ok_sell_in_order (T : Txt K mg Z) : FnOk P w K mg base CX0 1 Z.f_sell_in_order Z.d_sell_in_order p_sell_in_order (sp_sell K) := by
  refine T.F_sell_in_order.ok sc_sell_in_order (fun vs H Q E h => ?_) (fun cdv Ar outer s H vs Q E hr h => ?_)
  · obtain ⟨a, cs, q, rfl, _⟩ := h
    rfl
  · obtain ⟨a, cs, q, rfl, hS, hn, k⟩ := h
    refine ⟨_, (pss_cons (ps_set (i := 2) sc_sell_in_order.nd rfl (Or.inl rfl) (pe_lst pa_nil))
      (pss_cons (ps_for PassesOwn.never rfl (pi_listK K rfl (pv 0)) (pg_name (i := 3) sc_sell_in_order.nd rfl (Or.inl rfl)) (pss_cons (ps_set (i := 4) sc_sell_in_order.nd rfl (Or.inl rfl) (pe_callB (r := rMn) (call_min2 rfl) (by rfl) T.b_min boot_min (pa_cons (pv 3) (pa_cons (pv 1) pa_nil))))
      (pss_cons (ps_expr (pe_bm PySem.F.plainAttrs_list PySem.F.slot_list_append PySem.F.type_list_append mt_append (pv 2) (pa_cons (pe_op op_sub (pv 3) (pv 4)) pa_nil)))
      (pss_one (ps_aug (i := 1) sc_sell_in_order.nd rfl (Or.inl rfl) (pv 4) in_sub)))))
      (pss_one (ps_ret (pv 2))))), ?_⟩
    refine q_asgL (el_lst ea_nil (by show 0 ≤ 100000; decide)) fun L H1 nL e1 hL => ?_
    refine q_forLn (ev_var rfl) (ex_l e1 hS) (fun i σ' H' => (∃ x3 x4, σ' = [some (.ref a), some (.int (remL (cs.take i) q)), some (.ref L), x3, x4]) ∧ Ex H H' ∧ H' L = some (.lst ((sellL (cs.take i) q).map V.int))) (fun H2 e2 => ⟨⟨none, none, rfl⟩, e1.trans e2, e2 _ _ hL⟩) (fun i σ' H' _ p => ex_l p.2.1 hS) ?_ ?_
    · rintro i x σ' H' hx ⟨⟨x3, x4, rfl⟩, eH, hl⟩
      obtain ⟨rfl, hi⟩ := at_map hx
      have et : cs.take (i + 1) = cs.take i ++ [cs.getD i 0] := by
        rw [List.take_succ_eq_append_getElem hi]
        simp [List.getD, hi]
      refine q_asg (ev_min2 (ev_var rfl) (ev_var rfl)) fun H2 e2 => ?_
      refine q_app (e2 _ _ hl) (ev_var rfl) (ev_op (ev_var rfl) (ev_var rfl) rv_I0) (by rw [List.length_map, sellL_len, List.length_take]; omega) fun H3 e3 => ?_
      refine s_aug (f := fun a b => a - b) rfl (ev_var rfl) fun H4 e4 => ⟨⟨_, _, by rw [et, remL_snoc]; rfl⟩, fun b o z => e4 _ _ ?_, ?_⟩
      · rw [upd_ne (ne_of_none z nL)]; exact e3 _ _ (e2 _ _ (eH _ _ z))
      · rw [et, sellL_snoc, List.map_append]
        exact e4 _ _ upd_same
    · rintro σ' H' ⟨⟨x3, x4, rfl⟩, eH, hl⟩
      rw [List.length_map, List.take_length] at hl
      exact s_ret (ev_var rfl) fun H2 e2 => k L H2 nL (eH.trans e2) (e2 _ _ hl)
theorem el_sell {σ : L2.St} {H : Hp} {ta tb : TE} {a : Addr} {cs : List Int} {q : Int} {E : XK} (ha : Ev ta σ H (.ref a)) (hS : SqL K H a (cs.map V.int)) (hn : cs.length ≤ 1000) (hb : Ev tb σ H (.int q)) : EvL (tCall (sp_sell K) [] E (tCons ta (tCons tb tNil))) σ H ((sellL cs q).map V.int) := fun H1 e Q k =>
  ha H1 e _ fun H2 e2 => hb H2 (e.trans e2) _ fun H3 e3 => ⟨a, cs, q, rfl, ex_l ((e.trans e2).trans e3) hS, hn, fun p H4 np e4 h4 => k p H4 (fresh_back (e2.trans e3) np) ((e2.trans e3).trans e4) h4⟩
/-! ### the newest first -/
def nwT (bs ds : List Int) (life : Int) (t : Nat) : Int := (nwL bs ds life (t + 1)).getD (life.toNat - 1) 0
def nwM (bs ds : List Int) (life : Int) (t : Nat) : Int := dm bs ds t - nwS bs ds life t
def sp_newest (K : PySem.W.Frag) (Z : Ad) : Sp := fun vs H Q _ => ∃ (b : Addr) (bs ds : List Int) (life : Int) (i n : Nat), vs = [.ref b, .int (n : Int)] ∧ n ≤ 1000 ∧ BakAt K Z H b bs ds life i ∧ RetU [.int (psum (nwS bs ds life) n), .int (psum (nwM bs ds life) n), .int (psum (nwT bs ds life) n)] H Q
theorem ok_newest_first (T : Txt K mg Z) : FnOk P w K mg base CX0 3 Z.f_newest_first Z.d_newest_first p_newest_first (sp_newest K Z) := by
  refine T.F_newest_first.ok sc_newest_first (fun vs H Q E h => ?_) (fun cdv Ar outer s H vs Q E hr h => ?_)
  · obtain ⟨b, bs, ds, life, i, n, rfl, _⟩ := h
    rfl
  · obtain ⟨b, bs, ds, life, ix, n, rfl, hn, hB, k⟩ := h
    have gd := hB.gd
    have n0 := gd.n0
    have ld := gd.ld
    have l0 := hB.l0
    have l1 := hB.l1
    refine ⟨_, (pss_cons (ps_expr (pe_call (ok_check_number T) (hr.mono (by decide)) (by rfl) T.g_check_number T.F_check_number.kp T.b_check_number .nil pass0 (pa_cons (pv 1) (pa_cons pe_int (pa_cons (pe_glob (v := .int 1000) (by rfl) T.g_MOST_NEWEST_DAYS ⟨_, rfl⟩) pa_nil)))))
      (pss_cons (ps_asg3 pe_int (pg_name (i := 2) sc_newest_first.nd rfl (Or.inl rfl)) (pg_name (i := 3) sc_newest_first.nd rfl (Or.inl rfl)) (pg_name (i := 4) sc_newest_first.nd rfl (Or.inl rfl)))
      (pss_cons (ps_set (i := 5) sc_newest_first.nd rfl (Or.inl rfl) (pe_op op_rep (pe_lst (pa_cons pe_int pa_nil)) (pe_prop (pv 0) T.cl_Bakery T.pp_Bakery_life (ok_Bakery_life T) (hr.mono (by decide)) T.b_Bakery_life .nil pass0 rfl)))
      (pss_cons (ps_for PassesOwn.never rfl (pi_range1 (by rfl) T.b_range (pa_cons (pv 1) pa_nil)) (pg_name (i := 6) sc_newest_first.nd rfl (Or.inl rfl)) (pss_cons (ps_set (i := 7) sc_newest_first.nd rfl (Or.inl rfl) (pe_op op_mod (pv 6) (pe_callB (r := rLenS K) (call_len_seq) (by rfl) T.b_len boot_len (pa_cons (pe_prop (pv 0) T.cl_Bakery T.pp_Bakery_bakes (ok_Bakery_bakes T) (hr.mono (by decide)) T.b_Bakery_bakes .nil pass0 rfl) pa_nil))))
      (pss_cons (ps_set (i := 8) sc_newest_first.nd rfl (Or.inl rfl) (pe_op op_cat (pe_lst (pa_cons (pe_ix (r := rIxT K) ix_tup (pe_prop (pv 0) T.cl_Bakery T.pp_Bakery_bakes (ok_Bakery_bakes T) (hr.mono (by decide)) T.b_Bakery_bakes .nil pass0 rfl) (pv 7) (fun _ _ => rfl)) pa_nil)) (pe_slice (r := rSlL K) sl_list (pv 5) po_none (po_some (pe_un un_neg pe_int)))))
      (pss_cons (ps_set (i := 5) sc_newest_first.nd rfl (Or.inl rfl) (pe_call (ok_sell_in_order T) (hr.mono (by decide)) (by rfl) T.g_sell_in_order T.F_sell_in_order.kp T.b_sell_in_order .nil pass0 (pa_cons (pv 8) (pa_cons (pe_ix (r := rIxT K) ix_tup (pe_prop (pv 0) T.cl_Bakery T.pp_Bakery_demands (ok_Bakery_demands T) (hr.mono (by decide)) T.b_Bakery_demands .nil pass0 rfl) (pv 7) (fun _ _ => rfl)) pa_nil))))
      (pss_cons (ps_set (i := 9) sc_newest_first.nd rfl (Or.inl rfl) (pe_op op_sub (pe_callB (r := rSum K) (cr_sum rfl) (by rfl) T.b_sum boot_sum (pa_cons (pv 8) pa_nil)) (pe_callB (r := rSum K) (cr_sum rfl) (by rfl) T.b_sum boot_sum (pa_cons (pv 5) pa_nil))))
      (pss_cons (ps_aug (i := 2) sc_newest_first.nd rfl (Or.inl rfl) (pv 9) in_add)
      (pss_cons (ps_aug (i := 3) sc_newest_first.nd rfl (Or.inl rfl) (pe_op op_sub (pe_ix (r := rIxT K) ix_tup (pe_prop (pv 0) T.cl_Bakery T.pp_Bakery_demands (ok_Bakery_demands T) (hr.mono (by decide)) T.b_Bakery_demands .nil pass0 rfl) (pv 7) (fun _ _ => rfl)) (pv 9)) in_add)
      (pss_one (ps_aug (i := 4) sc_newest_first.nd rfl (Or.inl rfl) (pe_ix (r := rIxL K) ix_list (pv 5) (pe_un un_neg pe_int) (fun _ _ => rfl)) in_add)))))))))
      (pss_one (ps_ret (pe_tup (pa_cons (pv 2) (pa_cons (pv 3) (pa_cons (pv 4) pa_nil)))))))))), ?_⟩
    refine q_drop (ev_call (ea_cons (ev_var rfl) (ea_cons ev_c (ea_cons ev_c ea_nil))) (spv_num (by omega) (by omega))) fun H1 e1 => ?_
    refine q_asg3n ev_c fun H2 e2 => ?_
    have e12 := e1.trans e2
    refine q_asgL (xs := (nwL bs ds life 0).map V.int) (el_eq (el_rep1 (el_lst (ea_cons ev_c ea_nil) (by show 1 ≤ 100000; decide)) (ev_prop (ev_var rfl) (hB.mono e12).inst (fun G e Q q _ => ⟨b, bs, ds, life, ix, rfl, hB.mono (e12.trans e), q⟩)) (by omega) (by omega)) (by unfold nwL; rw [List.map_replicate])) fun L0 H3 nL e3 hL => ?_
    refine q_forR1 (n := (n : Int)) (ea_cons (ev_var rfl) ea_nil) ⟨by omega, by omega⟩ (fun t σ' H' => ∃ (L : Addr) (x6 x7 x8 x9 : Option V), σ' = [some (.ref b), some (.int (n : Int)), some (.int (psum (nwS bs ds life) t)), some (.int (psum (nwM bs ds life) t)), some (.int (psum (nwT bs ds life) t)), some (.ref L), x6, x7, x8, x9] ∧ Ex H H' ∧ H' L = some (.lst ((nwL bs ds life t).map V.int)))
      (fun H4 e4 => ⟨L0, none, none, none, none, rfl, (e12.trans e3).trans e4, e4 _ _ hL⟩) ?_ ?_
    · rintro t σ' H4 ht ⟨L, x6, x7, x8, x9, rfl, eH, hl⟩
      have r0 : 0 ≤ (t : Int) % (bs.length : Int) := Int.emod_nonneg _ (by omega)
      have r1 : (t : Int) % (bs.length : Int) < (bs.length : Int) := Int.emod_lt_of_pos _ (by omega)
      have tm := (day_split t bs.length n0).2
      have ab : atI (bs.map V.int) ((t : Int) % (bs.length : Int)) = some (.int (bk bs t)) := by
        rw [atI_mapI r0 r1, tm]; rfl
      have ad : atI (ds.map V.int) ((t : Int) % (bs.length : Int)) = some (.int (dm bs ds t)) := by
        rw [atI_mapI r0 (by rw [ld]; exact r1), tm]; rfl
      have ln := nwL_len (bs := bs) (ds := ds) l0 t
      have ln1 := nwL_len (bs := bs) (ds := ds) l0 (t + 1)
      refine q_asg (v := .int ((t : Int) % (bs.length : Int))) (ev_op (ev_var rfl) (Ev.int_eq (ev_lenW (ew_bks (ev_var rfl) (hB.mono eH))) (by rw [List.length_map])) (rv_I (by show (0 : Int) < (bs.length : Int); omega))) fun H5 e5 => ?_
      have eH5 := eH.trans e5
      refine q_asgL (xs := (nwC bs ds life t).map V.int) (el_eq (el_cat2 (el_lst (ea_cons (ev_ixW7 (ew_bks (ev_var rfl) (hB.mono eH5)) (ev_var rfl) ab) ea_nil) (by show 1 ≤ 100000; decide)) (el_sl (ev_var rfl) eo_none (eo_some (ev_un ev_c ru_neg)) (sq_of (e5 _ _ hl))) (by
        have z := cutV_length ((nwL bs ds life t).map V.int) none (some (-1))
        rw [List.length_map] at z
        show 1 + _ ≤ 100000
        omega)) (by
        rw [show (-(1 : Int)) = -1 from rfl, cut_last, ← List.map_dropLast]; rfl)) fun C H6 nC e6 hC => ?_
      have eH6 := eH5.trans e6
      have lc : (nwC bs ds life t).length ≤ 1000 := by
        show (nwL bs ds life t).dropLast.length + 1 ≤ 1000
        rw [List.length_dropLast, ln]; omega
      refine q_asgL (xs := (nwL bs ds life (t + 1)).map V.int) (el_sell (ev_var rfl) (sq_of hC) lc (ev_ixW7 (ew_dms (ev_var rfl) (hB.mono eH6)) (ev_var rfl) ad)) fun N H7 nN e7 hN => ?_
      have eH7 := eH6.trans e7
      refine q_asg (v := .int (nwS bs ds life t)) (ev_op (ev_sumL (ev_var rfl) (sq_of (e7 _ _ hC))) (ev_sumL (ev_var rfl) (sq_of hN)) rv_I0) fun H8 e8 => ?_
      refine q_aug (f := fun a b => a + b) rfl (ev_var rfl) fun H9 e9 => ?_
      refine q_aug (f := fun a b => a + b) rfl (ev_op (ev_ixW7 (ew_dms (ev_var rfl) (hB.mono ((eH7.trans e8).trans e9))) (ev_var rfl) ad) (ev_var rfl) rv_I0) fun H10 e10 => ?_
      have e710 := (e8.trans e9).trans e10
      have al : atI ((nwL bs ds life (t + 1)).map V.int) (-1) = some (.int (nwT bs ds life t)) := by
        have hne : nwL bs ds life (t + 1) ≠ [] := fun z => by rw [z] at ln1; simp at ln1; omega
        have e := (List.dropLast_concat_getLast hne).symm
        unfold nwT
        generalize (nwL bs ds life (t + 1)).getLast hne = y at e
        generalize (nwL bs ds life (t + 1)).dropLast = ys at e
        rw [e] at ln1 ⊢
        rw [List.map_append]
        have e2 : (ys ++ [y]).getD (life.toNat - 1) 0 = y := by
          have : life.toNat - 1 = ys.length := by rw [List.length_append] at ln1; simp at ln1; omega
          rw [this]; simp [List.getD]
        rw [e2]
        exact atI_last
      exact s_aug (f := fun a b => a + b) rfl (ev_ixL (ev_var rfl) (sq_of (e710 _ _ hN)) (ev_un ev_c ru_neg) al) fun H11 e11 => ⟨N, _, _, _, _, rfl, (eH7.trans e710).trans e11, e11 _ _ (e710 _ _ hN)⟩
    · rintro σ' H4 ⟨L, x6, x7, x8, x9, rfl, eH, hl⟩
      rw [Int.toNat_natCast]
      exact s_retU (eu_tup (ea_cons (ev_var rfl) (ea_cons (ev_var rfl) (ea_cons (ev_var rfl) ea_nil))) (by show 3 ≤ 100000; decide)) fun p H5 hp e5 h5 => k p H5 (fresh_back eH hp) (eH.trans e5) h5
end Sw
namespace Sw
open PySem PySem.Spec PyProof.Rows L2 Evl LamX NdefX
local macro_rules | `(tactic| walk_at "ev") => `(tactic| first
  | exact ev_c
  | exact ev_var rfl
  | ((with_reducible show Ev (tCB rMax2 _) _ _ _); exact ev_maxi (by walk_at "ev") (by walk_at "ev"))
  | ((with_reducible show Ev (tCB rMn _) _ _ _); exact ev_min2 (by walk_at "ev") (by walk_at "ev"))
  | ((with_reducible show Ev (tUn _ _) _ _ _); exact ev_un (by walk_at "ev") ru_neg)
  | ((with_reducible show Ev (tFld _ _ _) _ _ _); exact ev_fldK (by walk_at "ev") (by assumption))
  | ((with_reducible show Ev (tOp (rI0 _) _ _) _ _ _); exact ev_op (by walk_at "ev") (by walk_at "ev") rv_I0)
  | ((with_reducible show Ev (tOp rEq _ _) _ _ _); exact ev_op (by walk_at "ev") (by walk_at "ev") (rv_eq rfl))
  | ((with_reducible show Ev (tOp rNe _ _) _ _ _); exact ev_op (by walk_at "ev") (by walk_at "ev") (rv_ne rfl)))

variable {P : Program} {w : World} {K : PySem.W.Frag} {mg : Str → Option Value} {base : Heap} {Z : Ad}
/-- what is raised: an error of a bakery, its dict -/
def RaiB (Z : Ad) (p : Str) (i : Int) (H : Hp) (E : XK) : Prop := ∀ d H', Ex H H' → H d = none → H' d = some (.xd [("index", .int i), ("part", .str p)]) → E (.ref Z.c_InvalidBakery) (some d) H'
theorem RaiB.mono {p : Str} {i : Int} {H H' : Hp} {E : XK} (e : Ex H H') (h : RaiB Z p i H E) : RaiB Z p i H' E := fun d H2 e2 n x => h d H2 (e.trans e2) (fresh_back e n) x
def sp_IB (Z : Ad) : Sp := fun vs H Q _ => ∃ (a : Addr) (p : Str) (i : Int), vs = [.ref a, .str p, .int i] ∧ p.length ≤ 1000 ∧ -1000 < i ∧ i < 1000 ∧ H a = some (exo a Z.c_InvalidBakery none) ∧
  ∀ dx H', H dx = none → dx ≠ a → H' a = some (exo a Z.c_InvalidBakery (some dx)) → H' dx = some (exd dx [("index", .int i), ("part", .str p)]) → (∀ b o, H b = some o → b ≠ a → H' b = some o) → Q .non H'
theorem ok_InvalidBakery___init__ (T : Txt K mg Z) (hP : P = Z.P) : FnOk P w K mg base L2.CX0 1 Z.f_InvalidBakery___init__ Z.d_InvalidBakery___init__ p_InvalidBakery___init__ (sp_IB Z) := by
  subst hP
  refine sup_fn (k := 0) (CX := L2.CX0) T.xs_InvalidBakery T.ox_InvalidBakery rfl sc_InvalidBakery___init__ rfl rfl rfl rfl T.b_super (fun _ => rfl) (fun _ _ => rfl) (fun _ => rfl) (fun vs H Q E ⟨a, p, i, e, _⟩ => by rw [e]; rfl) (fun A outer s H vs Q E hr ⟨a, p, i, e, hp, h0, h1, ha, k⟩ => ?_)
  subst e
  refine ⟨_, _, a, [.str p, .int i], pa_cons (pe_joined (.cons pe_str (.cons (pe_fmt (pv 1)) (.cons pe_str (.cons (pe_fmt (pv 2)) (.cons pe_str .nil)))))) pa_nil, pss_cons (ps_ost (pv 0) (pv 1)) (pss_one (ps_ost (pv 0) (pv 2))), rfl, ha, ?_⟩
  have hi : (Str.ofString (toString i)).length ≤ 4 := by
    rw [PySem.ofString_length]
    exact int_text_length_le10 (k := 3) (by decide) (by omega)
  have hz := sizeLine_eq
  have l1 : (Str.ofString "wrong ").length = 6 := by decide +kernel
  have l2 : (Str.ofString " (index ").length = 8 := by decide +kernel
  have l3 : (Str.ofString ")").length = 1 := by decide +kernel
  have l0 : Str.empty.length = 0 := rfl
  have lg : i.natAbs.log2 < 1920 := by
    rcases Nat.eq_zero_or_pos i.natAbs with q | q
    · rw [q]; decide
    · exact Nat.lt_of_le_of_lt (Nat.log2_le_self _) (by omega)
  refine ⟨_, rfl, ?_, _, rfl, .inl ⟨p, rfl, by omega, p, rfl, ?_, _, rfl, ?_, _, rfl, .inr ⟨i, rfl, lg, _, rfl, ?_, _, rfl, ?_, by show 1 ≤ 1000; decide, ha, ?_⟩⟩⟩
  · rw [Str.length_append]; omega
  · simp only [Str.length_append]; omega
  · simp only [Str.length_append]; omega
  · simp only [Str.length_append]; omega
  · simp only [Str.length_append]; omega
  refine ⟨_, rfl, _, rfl, a, Z.c_InvalidBakery, rfl, T.ox_InvalidBakery, T.na_InvalidBakery_part, .inl ⟨ha, fun dx hd ne => ⟨_, rfl, _, rfl, a, Z.c_InvalidBakery, rfl, T.ox_InvalidBakery, T.na_InvalidBakery_index, .inr ⟨dx, [("part", .str p)], upd_same, (upd_ne ne).trans upd_same, by show 1 ≤ 900; decide, k dx _ hd ne ?_ upd_same fun b o q n => ?_⟩⟩⟩⟩
  · exact (upd_ne (Ne.symm ne)).trans upd_same
  · rw [upd_ne (ne_of_none q hd), upd_ne n, upd_ne (ne_of_none q hd)]; exact q
theorem rs_bak {σ : L2.St} {H : Hp} {t : TA} {p : Str} {i : Int} {E : XK} (ha : EvA t σ H [.str p, .int i]) (hp : p.length ≤ 1000) (h0 : -1000 < i) (h1 : i < 1000) (k : RaiB Z p i H E) : tMkO Z.c_InvalidBakery (sp_IB Z) [] t σ H (fun cls d H' => E cls d H') :=
  ha H (Ex.refl H) _ fun H1 e1 => ⟨by show 2 ≤ 1000; decide, fun a na => ⟨a, p, i, rfl, hp, h0, h1, upd_same, fun dx H' hd ne x1 x2 x3 => by
    rw [upd_ne ne] at hd
    refine ⟨rfl, dx, _, x1, x2, hd, k dx _ (fun b o q => ?_) (fresh_back e1 hd) upd_same⟩
    have q1 := e1 b o q
    rw [upd_ne (ne_of_none q1 hd), del_ne (ne_of_none q1 na)]
    exact x3 b o ((upd_ne (ne_of_none q1 na)).trans q1) (ne_of_none q1 na)⟩⟩
/-! ### the first fault -/
def badP (am : List Int) (i : Nat) : Bool := decide ((i : Int) = 24) || (decide (am.getD i 0 < 0) || decide (1000000000 < am.getD i 0))
def badAt (am : List Int) : Option Nat := (List.range am.length).find? (badP am)
theorem badAt_is {am : List Int} {i : Nat} (h : ∀ j, j < i → badP am j = false) (hb : badP am i = true) (hi : i < am.length) : badAt am = some i := by
  unfold badAt
  rw [List.find?_range_eq_some]
  exact ⟨hb, List.mem_range.mpr hi, fun j hj => by rw [h j hj]; rfl⟩
theorem badAt_no {am : List Int} (h : ∀ j, j < am.length → badP am j = false) : badAt am = none := by
  unfold badAt
  rw [List.find?_eq_none]
  exact fun j hj => by rw [h j (List.mem_range.mp hj)]; decide
theorem badAt_none {am : List Int} (h : badAt am = none) {j : Nat} (hj : j < am.length) : badP am j = false := by
  unfold badAt at h
  rw [List.find?_eq_none] at h
  exact Bool.eq_false_iff.mpr (h j (List.mem_range.mpr hj))
theorem badAt_some {am : List Int} {i : Nat} (h : badAt am = some i) : badP am i = true ∧ i < am.length ∧ ∀ j, j < i → badP am j = false := by
  unfold badAt at h
  rw [List.find?_range_eq_some] at h
  exact ⟨h.1, List.mem_range.mp h.2.1, fun j hj => by have z := h.2.2 j hj; simpa using z⟩
theorem badAt_le {am : List Int} {i : Nat} (h : badAt am = some i) : i ≤ 24 := by
  obtain ⟨_, hl, hn⟩ := badAt_some h
  refine Nat.le_of_not_lt fun q => ?_
  have z := hn 24 q
  simp [badP] at z
def sp_amountsX (K : PySem.W.Frag) (Z : Ad) : Sp := fun vs H _ E => ∃ (s : Str) (a : Addr) (am : List Int) (i : Nat), vs = [.str s, .ref a] ∧ s.length ≤ 1000 ∧ SqT K H a (am.map V.int) ∧ am.length ≤ 1000 ∧ badAt am = some i ∧ RaiB Z s (i : Int) H E
theorem okX_check_amounts (T : Txt K mg Z) (hP : P = Z.P) : FnOk P w K mg base (L2.CX P w) 3 Z.f_check_amounts Z.d_check_amounts p_check_amounts (sp_amountsX K Z) := by
  refine T.F_check_amounts.okX sc_check_amounts (fun vs H Q E h => ?_) (fun cdv Ar outer s H vs Q E hr h => ?_)
  · obtain ⟨s, a, am, i, rfl, _⟩ := h
    rfl
  · obtain ⟨s, a, am, i0, rfl, hs, hS, hl, hb, k⟩ := h
    obtain ⟨cr, u, cv⟩ := T.cv_Bakery_MAX_DAYS
    have h24 := badAt_le hb
    refine ⟨_, (pss_one (ps_for (passes_of rfl) rfl (pi_enumTK K rfl (by rfl) T.b_enumerate (pa_cons (pv 1) pa_nil)) (by exact (pg_tupK K (n := 2) rfl rfl (pgs_cons (pg_name (i := 2) sc_check_amounts.nd rfl (Or.inl rfl)) (pgs_cons (pg_name (i := 3) sc_check_amounts.nd rfl (Or.inl rfl)) pgs_nil)))) (pss_one (ps_if (PW.pt (pw_or (pt_cmpR op_eq (pv 2) (ClX.pe_cval (pe_glob (v := .ref Z.c_Bakery) (by rfl) T.g_Bakery rfl) rfl) (nomark _)) (pw_or (pt_cmpR op_lt (pv 3) pe_int (nomark _)) (pw_or1 (pt_cmpR op_gt (pv 3) (pe_glob (v := .int 1000000000) (by rfl) T.g_MOST_LOAVES ⟨_, rfl⟩) (nomark _)))))) (pss_one (ps_raise rfl (takes_of rfl rfl rfl rfl) (pmk_oex T.ox_InvalidBakery T.xi_InvalidBakery T.xt_InvalidBakery (ok_InvalidBakery___init__ T hP) (hr.mono (by decide)) T.b_InvalidBakery___init__ .nil pass0 (by rfl) T.g_InvalidBakery (pa_cons (pv 0) (pa_cons (pv 2) pa_nil))))) pss_nil)))), ?_⟩
    refine s_forEnT (ea_cons (ev_var rfl) ea_nil) hS (fun i σ' H' => (∃ x y, σ' = [some (.str s), some (.ref a), x, y]) ∧ Ex H H' ∧ ∀ j, j < i → badP am j = false) (fun H1 e1 => ⟨⟨_, _, rfl⟩, e1, fun j hj => absurd hj (by omega)⟩) (fun i σ' H' _ p => p.2.1) ?_ ?_
    · rintro i x σ' H' hx ⟨⟨_, _, rfl⟩, e1, hn⟩ H2 e2
      obtain ⟨rfl, hi⟩ := at_map hx
      refine s_when (b := badP am i) (et_is (et_or (et_test (ev_op (ev_var rfl) (ev_cval ev_c cr cv) (rv_eq rfl))) fun _ => et_or (et_test (by walk_at "ev")) fun _ => et_test (by walk_at "ev")) ?_) (fun hb1 H3 e3 => ?_) fun hb1 H3 e3 => ⟨⟨_, _, rfl⟩, (e1.trans e2).trans e3, fun j hj => ?_⟩
      · have q : (V.int (i : Nat) = V.int 24) ↔ ((i : Int) = 24) := ⟨fun z => by injection z, fun z => by rw [z]⟩
        simp [badP, q]
      · have z := badAt_is hn hb1 hi
        rw [hb] at z
        cases z
        exact rs_bak (ea_cons (ev_var rfl) (ea_cons (ev_var rfl) ea_nil)) hs (by omega) (by omega) (k.mono ((e1.trans e2).trans e3))
      · rcases Nat.lt_or_eq_of_le (Nat.le_of_lt_succ hj) with q | q
        · exact hn j q
        · rw [q]; exact hb1
    · rintro σ' H' ⟨⟨_, _, rfl⟩, e1, hn⟩
      rw [badAt_no fun j hj => hn j (by rw [List.length_map]; exact hj)] at hb
      cases hb
end Sw
namespace Sw
open PySem PySem.Spec PyProof.Rows L2 Evl LamX NdefX
local macro_rules | `(tactic| walk_at "ev") => `(tactic| first
  | exact ev_c
  | exact ev_var rfl
  | ((with_reducible show Ev (tCB rMax2 _) _ _ _); exact ev_maxi (by walk_at "ev") (by walk_at "ev"))
  | ((with_reducible show Ev (tCB rMn _) _ _ _); exact ev_min2 (by walk_at "ev") (by walk_at "ev"))
  | ((with_reducible show Ev (tUn _ _) _ _ _); exact ev_un (by walk_at "ev") ru_neg)
  | ((with_reducible show Ev (tFld _ _ _) _ _ _); exact ev_fldK (by walk_at "ev") (by assumption))
  | ((with_reducible show Ev (tOp (rI0 _) _ _) _ _ _); exact ev_op (by walk_at "ev") (by walk_at "ev") rv_I0)
  | ((with_reducible show Ev (tOp rEq _ _) _ _ _); exact ev_op (by walk_at "ev") (by walk_at "ev") (rv_eq rfl))
  | ((with_reducible show Ev (tOp rNe _ _) _ _ _); exact ev_op (by walk_at "ev") (by walk_at "ev") (rv_ne rfl)))

/-! ### bakeries that are wrong -/
theorem bad_good {am : List Int} (h : badAt am = none) : am.length ≤ 24 ∧ ∀ x ∈ am, 0 ≤ x ∧ x ≤ 1000000000 := by
  constructor
  · refine Nat.le_of_not_lt fun q => ?_
    have z := badAt_none h q
    simp [badP] at z
  · intro x hx
    obtain ⟨j, hj, e⟩ := List.getElem_of_mem hx
    have z := badAt_none h hj
    have e2 : am.getD j 0 = x := by simp [List.getD, hj, e]
    simp only [badP, e2, Bool.or_eq_false_iff, decide_eq_false_iff_not] at z
    omega
/-- the fault of a bakery of these numbers -/
def dueB (bs ds : List Int) (life : Int) : Option (Str × Int) := match badAt bs with
  | some i => some ("bakes", (i : Int))
  | none => if bs.length = 0 then some ("bakes", -1) else match badAt ds with
    | some i => some ("demands", (i : Int))
    | none => if ds.length ≠ bs.length then some ("demands", -1) else if life < 1 ∨ 30 < life then some ("life", -1) else none
theorem due_good {bs ds : List Int} {life : Int} (h : dueB bs ds life = none) : Good bs ds ∧ 1 ≤ life ∧ life ≤ 30 := by
  unfold dueB at h
  cases h1 : badAt bs with
  | some i => rw [h1] at h; cases h
  | none =>
    rw [h1] at h
    dsimp only at h
    split at h
    · cases h
    rename_i n0
    cases h2 : badAt ds with
    | some i => rw [h2] at h; cases h
    | none =>
      rw [h2] at h
      dsimp only at h
      split at h
      · cases h
      rename_i nl
      split at h
      · cases h
      rename_i nf
      exact ⟨⟨by omega, (bad_good h1).1, by omega, (bad_good h1).2, (bad_good h2).2⟩, by omega, by omega⟩
theorem spv_or {sp sp' : Sp} {vs : List V} {H : Hp} {z : V} (h : SpV sp vs H z) : SpV (spOr sp sp') vs H z := fun H1 e Q q E => .inl (h H1 e Q q E)
theorem q_rz {σ : L2.St} {H : Hp} {t : TA} {vs : List V} {sp : Sp} {E : XK} {Q : VK} (ha : EvA t σ H vs) (h : ∀ H1, Ex H H1 → ∀ Q, sp vs H1 Q E) : tCall sp [] E t σ H Q := ha H (Ex.refl H) _ fun H1 e1 => by
  show sp (vs ++ []) H1 Q E
  rw [List.append_nil]; exact h H1 e1 Q
variable {P : Program} {w : World} {K : PySem.W.Frag} {mg : Str → Option Value} {base : Heap} {Z : Ad}
theorem okM_check_amounts (T : Txt K mg Z) (hP : P = Z.P) : FnOk P w K mg base (L2.CX P w) 3 Z.f_check_amounts Z.d_check_amounts p_check_amounts (spOr (sp_amounts K) (sp_amountsX K Z)) := fn_or (fn_lift (ok_check_amounts T)) (okX_check_amounts T hP)
def sp_lifeX (Z : Ad) : Sp := fun vs H _ E => ∃ life : Int, vs = [.int life] ∧ (life < 1 ∨ 30 < life) ∧ RaiB Z (Str.ofString "life") (-1) H E
theorem okX_check_life (T : Txt K mg Z) (hP : P = Z.P) : FnOk P w K mg base (L2.CX P w) 3 Z.f_check_life Z.d_check_life p_check_life (sp_lifeX Z) := by
  refine T.F_check_life.okX sc_check_life (fun vs H Q E h => ?_) (fun cdv Ar outer s H vs Q E hr h => ?_)
  · obtain ⟨life, rfl, _⟩ := h
    rfl
  · obtain ⟨life, rfl, hl, k⟩ := h
    obtain ⟨cr, u, cv⟩ := T.cv_Bakery_MAX_LIFE
    have z3 : (Str.ofString "life").length ≤ 1000 := by decide +kernel
    refine ⟨_, (pss_one (ps_if (PW.pt (pw_or (pt_cmpR op_lt (pv 0) pe_int (nomark _)) (pw_or1 (pt_cmpR op_gt (pv 0) (ClX.pe_cval (pe_glob (v := .ref Z.c_Bakery) (by rfl) T.g_Bakery rfl) rfl) (nomark _))))) (pss_one (ps_raise rfl (takes_of rfl rfl rfl rfl) (pmk_oex T.ox_InvalidBakery T.xi_InvalidBakery T.xt_InvalidBakery (ok_InvalidBakery___init__ T hP) (hr.mono (by decide)) T.b_InvalidBakery___init__ .nil pass0 (by rfl) T.g_InvalidBakery (pa_cons pe_str (pa_cons (pe_un un_neg pe_int) pa_nil))))) pss_nil)), ?_⟩
    refine s_when (b := true) (et_is (et_or (et_test (by walk_at "ev")) fun _ => et_test (ev_op (ev_var rfl) (ev_cval ev_c cr cv) rv_I0)) (by simp; omega)) (fun _ H5 e5 => ?_) fun hb => nomatch hb
    exact rs_bak (ea_cons ev_c (ea_cons (ev_un ev_c ru_neg) ea_nil)) z3 (by decide) (by decide) (k.mono e5)
theorem okM_check_life (T : Txt K mg Z) (hP : P = Z.P) : FnOk P w K mg base (L2.CX P w) 3 Z.f_check_life Z.d_check_life p_check_life (spOr sp_life1 (sp_lifeX Z)) := fn_or (fn_lift (ok_check_life T)) (okX_check_life T hP)
def sp_checkX (K : PySem.W.Frag) (Z : Ad) : Sp := fun vs H _ E => ∃ (a b : Addr) (bs ds : List Int) (life : Int) (p : Str) (i : Int), vs = [.ref a, .ref b, .int life] ∧ SqT K H a (bs.map V.int) ∧ SqT K H b (ds.map V.int) ∧ bs.length ≤ 1000 ∧ ds.length ≤ 1000 ∧ dueB bs ds life = some (p, i) ∧ RaiB Z p i H E
theorem okX_check_bakery (T : Txt K mg Z) (hP : P = Z.P) : FnOk P w K mg base (L2.CX P w) 4 Z.f_check_bakery Z.d_check_bakery p_check_bakery (sp_checkX K Z) := by
  refine T.F_check_bakery.okX sc_check_bakery (fun vs H Q E h => ?_) (fun cdv Ar outer s H vs Q E hr h => ?_)
  · obtain ⟨a, b, bs, ds, life, p, i, rfl, _⟩ := h
    rfl
  · obtain ⟨a, b, bs, ds, life, p, i, rfl, hB, hD, lb, ld, hd, k⟩ := h
    have e24 : ((bs.map V.int).length : Int) = (bs.length : Int) := by rw [List.length_map]
    have e24' : ((ds.map V.int).length : Int) = (ds.length : Int) := by rw [List.length_map]
    have z1 : (Str.ofString "bakes").length ≤ 1000 := by decide +kernel
    have z2 : (Str.ofString "demands").length ≤ 1000 := by decide +kernel
    have z3 : (Str.ofString "life").length ≤ 1000 := by decide +kernel
    refine ⟨_, (pss_cons (ps_expr (pe_call (okM_check_amounts T hP) (hr.mono (by decide)) (by rfl) T.g_check_amounts T.F_check_amounts.kp T.b_check_amounts .nil (passes_call (takes_of rfl rfl rfl rfl) (fun _ _ _ _ h => h)) (pa_cons pe_str (pa_cons (pv 0) pa_nil))))
      (pss_cons (ps_if (pt_cmpR op_eq (pe_callB (r := rLenS K) (call_len_seq) (by rfl) T.b_len boot_len (pa_cons (pv 0) pa_nil)) pe_int (nomark _)) (pss_one (ps_raise rfl (takes_of rfl rfl rfl rfl) (pmk_oex T.ox_InvalidBakery T.xi_InvalidBakery T.xt_InvalidBakery (ok_InvalidBakery___init__ T hP) (hr.mono (by decide)) T.b_InvalidBakery___init__ .nil pass0 (by rfl) T.g_InvalidBakery (pa_cons pe_str (pa_cons (pe_un un_neg pe_int) pa_nil))))) pss_nil)
      (pss_cons (ps_expr (pe_call (okM_check_amounts T hP) (hr.mono (by decide)) (by rfl) T.g_check_amounts T.F_check_amounts.kp T.b_check_amounts .nil (passes_call (takes_of rfl rfl rfl rfl) (fun _ _ _ _ h => h)) (pa_cons pe_str (pa_cons (pv 1) pa_nil))))
      (pss_cons (ps_if (pt_cmpR op_ne (pe_callB (r := rLenS K) (call_len_seq) (by rfl) T.b_len boot_len (pa_cons (pv 1) pa_nil)) (pe_callB (r := rLenS K) (call_len_seq) (by rfl) T.b_len boot_len (pa_cons (pv 0) pa_nil)) (nomark _)) (pss_one (ps_raise rfl (takes_of rfl rfl rfl rfl) (pmk_oex T.ox_InvalidBakery T.xi_InvalidBakery T.xt_InvalidBakery (ok_InvalidBakery___init__ T hP) (hr.mono (by decide)) T.b_InvalidBakery___init__ .nil pass0 (by rfl) T.g_InvalidBakery (pa_cons pe_str (pa_cons (pe_un un_neg pe_int) pa_nil))))) pss_nil)
      (pss_one (ps_expr (pe_call (okM_check_life T hP) (hr.mono (by decide)) (by rfl) T.g_check_life T.F_check_life.kp T.b_check_life .nil (passes_call (takes_of rfl rfl rfl rfl) (fun _ _ _ _ h => h)) (pa_cons (pv 2) pa_nil)))))))), ?_⟩
    unfold dueB at hd
    cases h1 : badAt bs with
    | some j =>
      rw [h1] at hd
      cases hd
      exact q_rz (ea_cons ev_c (ea_cons (ev_var rfl) ea_nil)) fun H1 e1 Q => .inr ⟨_, a, bs, j, rfl, z1, ex_t e1 hB, lb, h1, k.mono e1⟩
    | none =>
      rw [h1] at hd
      dsimp only at hd
      refine q_drop (ev_call (ea_cons ev_c (ea_cons (ev_var rfl) ea_nil)) (spv_or (spv_amounts hB (bad_good h1).1 (bad_good h1).2))) fun H1 e1 => ?_
      refine q_when (b := decide (bs.length = 0)) (et_is (et_test (ev_op (Ev.int_eq (ev_lenT (ev_var rfl) (ex_t e1 hB)) e24) ev_c (rv_eq rfl))) ?_) (fun hb H2 e2 => ?_) fun hb H2 e2 => ?_
      · have q : (V.int (bs.length : Int) = V.int 0) ↔ bs.length = 0 := ⟨fun z => by injection z with z; omega, fun z => by rw [z]; rfl⟩
        simp only [q]
      · rw [if_pos (of_decide_eq_true hb)] at hd
        cases hd
        exact rs_bak (ea_cons ev_c (ea_cons (ev_un ev_c ru_neg) ea_nil)) z1 (by decide) (by decide) (k.mono (e1.trans e2))
      rw [if_neg (of_decide_eq_false hb)] at hd
      have e12 := e1.trans e2
      cases h2 : badAt ds with
      | some j =>
        rw [h2] at hd
        cases hd
        exact q_rz (ea_cons ev_c (ea_cons (ev_var rfl) ea_nil)) fun H3 e3 Q => .inr ⟨_, b, ds, j, rfl, z2, ex_t (e12.trans e3) hD, ld, h2, k.mono (e12.trans e3)⟩
      | none =>
        rw [h2] at hd
        dsimp only at hd
        refine q_drop (ev_call (ea_cons ev_c (ea_cons (ev_var rfl) ea_nil)) (spv_or (spv_amounts (ex_t e12 hD) (bad_good h2).1 (bad_good h2).2))) fun H3 e3 => ?_
        have eA := e12.trans e3
        refine q_when (b := decide (ds.length ≠ bs.length)) (et_is (et_test (ev_op (Ev.int_eq (ev_lenT (ev_var rfl) (ex_t eA hD)) e24') (Ev.int_eq (ev_lenT (ev_var rfl) (ex_t eA hB)) e24) (rv_ne rfl))) ?_) (fun hb H4 e4 => ?_) fun hb H4 e4 => ?_
        · have q : (V.int (ds.length : Int) = V.int (bs.length : Int)) ↔ ds.length = bs.length := ⟨fun z => by injection z with z; omega, fun z => by rw [z]⟩
          simp [q]
        · rw [if_pos (of_decide_eq_true hb)] at hd
          cases hd
          exact rs_bak (ea_cons ev_c (ea_cons (ev_un ev_c ru_neg) ea_nil)) z2 (by decide) (by decide) (k.mono (eA.trans e4))
        rw [if_neg (of_decide_eq_false hb)] at hd
        by_cases hb : life < 1 ∨ 30 < life
        · rw [if_pos hb] at hd
          cases hd
          exact q_rz (ea_cons (ev_var rfl) ea_nil) fun H5 e5 Q => .inr ⟨life, rfl, hb, k.mono ((eA.trans e4).trans e5)⟩
        · rw [if_neg hb] at hd
          cases hd
theorem okM_check_bakery (T : Txt K mg Z) (hP : P = Z.P) : FnOk P w K mg base (L2.CX P w) 4 Z.f_check_bakery Z.d_check_bakery p_check_bakery (spOr (sp_check K) (sp_checkX K Z)) := fn_or (fn_lift (ok_check_bakery T)) (okX_check_bakery T hP)
def sp_BinitX (K : PySem.W.Frag) (Z : Ad) : Sp := fun vs H _ E => ∃ (x a b : Addr) (bs ds : List Int) (life : Int) (p : Str) (i : Int), vs = [.ref x, .ref a, .ref b, .int life] ∧ SqT K H a (bs.map V.int) ∧ SqT K H b (ds.map V.int) ∧ bs.length ≤ 1000 ∧ ds.length ≤ 1000 ∧ dueB bs ds life = some (p, i) ∧ RaiB Z p i H E
theorem okX_Bakery___init__ (T : Txt K mg Z) (hP : P = Z.P) : FnOk P w K mg base (L2.CX P w) 6 Z.f_Bakery___init__ Z.d_Bakery___init__ p_Bakery___init__ (sp_BinitX K Z) := by
  refine T.F_Bakery___init__.okX sc_Bakery___init__ (fun vs H Q E h => ?_) (fun cdv Ar outer s H vs Q E hr h => ?_)
  · obtain ⟨x, a, b, bs, ds, life, p, i, rfl, _⟩ := h
    rfl
  · obtain ⟨x, a, b, bs, ds, life, p, i, rfl, hB, hD, lb, ld, hd, k⟩ := h
    refine ⟨_, (pss_cons (ps_expr (pe_call (okM_check_bakery T hP) (hr.mono (by decide)) (by rfl) T.g_check_bakery T.F_check_bakery.kp T.b_check_bakery .nil (passes_call (takes_of rfl rfl rfl rfl) (fun _ _ _ _ h => h)) (pa_cons (pv 1) (pa_cons (pv 2) (pa_cons (pv 3) pa_nil)))))
      (pss_cons (ps_fld (pv 0) (pe_callTy (r := rTupS K) (call_tuple_of) (by rfl) T.b_tuple boot_tuple (pa_cons (pv 1) pa_nil)) rfl)
      (pss_cons (ps_fld (pv 0) (pe_callTy (r := rTupS K) (call_tuple_of) (by rfl) T.b_tuple boot_tuple (pa_cons (pv 2) pa_nil)) rfl)
      (pss_cons (ps_fld (pv 0) (pv 3) rfl)
      (pss_cons (ps_fld (pv 0) (pe_make T.mk_Course (ok_Course___init__ T) (hr.mono (by decide)) (by rfl) T.g_Course T.b_Course___init__ .nil pass0 (pa_cons (pe_fldK K rfl (pv 0) rfl) (pa_cons (pe_fldK K rfl (pv 0) rfl) (pa_cons (pv 3) pa_nil)))) rfl)
      (pss_cons (ps_fld (pv 0) (pe_meth0 (pe_fldK K rfl (pv 0) rfl) T.cl_Course T.m_Course_find_settled (ok_Course_find_settled T) (hr.mono (by decide)) T.b_Course_find_settled .nil pass0) rfl)
      (pss_one (ps_fld (pv 0) (pe_meth0 (pe_fldK K rfl (pv 0) rfl) T.cl_Course T.m_Course_sum_settled_round (ok_Course_sum_settled_round T) (hr.mono (by decide)) T.b_Course_sum_settled_round .nil pass0) rfl)))))))), ?_⟩
    exact q_rz (ea_cons (ev_var rfl) (ea_cons (ev_var rfl) (ea_cons (ev_var rfl) ea_nil))) fun H1 e1 Q => .inr ⟨a, b, bs, ds, life, p, i, rfl, ex_t e1 hB, ex_t e1 hD, lb, ld, hd, k.mono e1⟩
theorem okM_Bakery___init__ (T : Txt K mg Z) (hP : P = Z.P) : FnOk P w K mg base (L2.CX P w) 6 Z.f_Bakery___init__ Z.d_Bakery___init__ p_Bakery___init__ (spOr (sp_Binit K Z) (sp_BinitX K Z)) := fn_or (fn_lift (ok_Bakery___init__ T)) (okX_Bakery___init__ T hP)
/-- Bakery(..) of wrong numbers -/
theorem r_make {σ : L2.St} {H : Hp} {t : TA} {a b : Addr} {bs ds : List Int} {life : Int} {p : Str} {i : Int} {E : XK} {Q : VK} {sp : Sp} (ht : EvA t σ H [.ref a, .ref b, .int life]) (hB : SqT K H a (bs.map V.int)) (hD : SqT K H b (ds.map V.int)) (lb : bs.length ≤ 1000) (ld : ds.length ≤ 1000) (hd : dueB bs ds life = some (p, i)) (k : RaiB Z p i H E) :
    tMake Z.c_Bakery (spOr sp (sp_BinitX K Z)) [] E t σ H Q := ht H (Ex.refl H) _ fun H1 e1 x dx hx hdx hne => by
  have eN : Ex H1 (upd (upd H1 dx (.own x)) x (.ins Z.c_Bakery dx [])) := fun b o hbo => by
    rw [upd_ne (ne_of_none hbo hx), upd_ne (ne_of_none hbo hdx)]; exact hbo
  exact .inr ⟨x, a, b, bs, ds, life, p, i, rfl, ex_t (e1.trans eN) hB, ex_t (e1.trans eN) hD, lb, ld, hd, k.mono (e1.trans eN)⟩
def sp_withX (K : PySem.W.Frag) (Z : Ad) : Sp := fun vs H _ E => ∃ (b : Addr) (bs ds : List Int) (life life' : Int) (i0 : Nat) (p : Str) (i : Int), vs = [.ref b, .int life'] ∧ BakAt K Z H b bs ds life i0 ∧ dueB bs ds life' = some (p, i) ∧ RaiB Z p i H E
theorem okX_Bakery_with_life (T : Txt K mg Z) (hP : P = Z.P) : FnOk P w K mg base (L2.CX P w) 8 Z.f_Bakery_with_life Z.d_Bakery_with_life p_Bakery_with_life (sp_withX K Z) := by
  refine T.F_Bakery_with_life.okX sc_Bakery_with_life (fun vs H Q E h => ?_) (fun cdv Ar outer s H vs Q E hr h => ?_)
  · obtain ⟨b, bs, ds, life, life', i0, p, i, rfl, _⟩ := h
    rfl
  · obtain ⟨b, bs, ds, life, life', i0, p, i, rfl, hB, hd, k⟩ := h
    obtain ⟨tb, fb, hb⟩ := hB.fb
    obtain ⟨td, fd, hdd⟩ := hB.fd
    have gd := hB.gd
    have n1 := gd.n1
    have ln := gd.ld
    refine ⟨_, (pss_one (ps_ret (pe_make T.mk_Bakery (okM_Bakery___init__ T hP) (hr.mono (by decide)) (by rfl) T.g_Bakery T.b_Bakery___init__ .nil (passes_call (takes_of rfl rfl rfl rfl) (fun _ _ _ _ h => h)) (pa_cons (pe_fldK K rfl (pv 0) rfl) (pa_cons (pe_fldK K rfl (pv 0) rfl) (pa_cons (pv 1) pa_nil)))))), ?_⟩
    exact r_make (ea_cons (by walk_at "ev") (ea_cons (by walk_at "ev") (ea_cons (ev_var rfl) ea_nil))) hb hdd (by omega) (by omega) hd k
theorem el_tupM {σ : L2.St} {H : Hp} {tl te : TE} {tb : Addr} {jj : Nat} {vs : List Nat} {bs : List Int} {m : Int} (hl : Ev tl σ H (.ref tb)) (hb : SqT K H tb (bs.map V.int)) (hn : bs.length ≤ 10000) (hw : ∀ x, wipe ((wipe σ vs).set jj (some x)) vs = wipe σ vs)
    (he : ∀ (i : Nat) (x : V) H1, Ex H H1 → (bs.map V.int)[i]? = some x → Ev te ((wipe σ vs).set jj (some x)) H1 (.int (bs.getD i 0 + m))) : EvL (tLc (iTup K tl) (gName jj) tYes te vs) σ H ((bs.map (· + m)).map V.int) := fun H0 e0 Q' q => hl H0 e0 _ fun H1 e1 => ⟨tb, rfl, ⟨bs.map V.int, ex_t (e0.trans e1) hb⟩, fun Dl hD => by
    have eq0 : (bs.map (· + m)).map V.int = given bs.length (fun _ => true) (fun i => .int (bs.getD i 0 + m)) := by
      rw [given_all]
      apply List.ext_getElem
      · simp
      · intro i h1 h2
        simp at h1
        simp [List.getD, h1]
    rw [eq0] at q
    refine lc_it (walk_tup (xs := bs.map V.int)) (Cw H1 (fun _ => true) (fun i => .int (bs.getD i 0 + m)) Dl) ⟨hD, Ex.new hD, upd_same⟩ (fun i H' _ p => ex_t ((e0.trans e1).trans p.2.1) hb) (fun i w H' H2 hi p y => ?_) (fun H' p => q Dl H' (fresh_back e1 p.1) (e1.trans p.2.1) (by rw [← List.length_map (f := V.int)]; exact p.2.2))
    obtain ⟨rfl, hx⟩ := y
    refine ⟨hw _, ?_⟩
    rw [List.length_map] at hi
    exact cw_turn p (by omega) et_yes (fun _ => he i w H1 (e0.trans e1) hx)⟩
def sp_moreX (K : PySem.W.Frag) (Z : Ad) : Sp := fun vs H _ E => ∃ (b : Addr) (bs ds : List Int) (life m : Int) (i0 : Nat) (p : Str) (i : Int), vs = [.ref b, .int m] ∧ BakAt K Z H b bs ds life i0 ∧ dueB (bs.map (· + m)) ds life = some (p, i) ∧ RaiB Z p i H E
theorem okX_Bakery_baking_more (T : Txt K mg Z) (hP : P = Z.P) : FnOk P w K mg base (L2.CX P w) 8 Z.f_Bakery_baking_more Z.d_Bakery_baking_more p_Bakery_baking_more (sp_moreX K Z) := by
  refine T.F_Bakery_baking_more.okX sc_Bakery_baking_more (fun vs H Q E h => ?_) (fun cdv Ar outer s H vs Q E hr h => ?_)
  · obtain ⟨b, bs, ds, life, m, i0, p, i, rfl, _⟩ := h
    rfl
  · obtain ⟨b, bs, ds, life, m, i0, p, i, rfl, hB, hd, k⟩ := h
    obtain ⟨tb, fb, hb⟩ := hB.fb
    obtain ⟨td, fd, hdd⟩ := hB.fd
    have fl := hB.fl
    have n1 := hB.gd.n1
    have ln := hB.gd.ld
    refine ⟨_, (pss_one (ps_ret (pe_make T.mk_Bakery (okM_Bakery___init__ T hP) (hr.mono (by decide)) (by rfl) T.g_Bakery T.b_Bakery___init__ .nil (passes_call (takes_of rfl rfl rfl rfl) (fun _ _ _ _ h => h)) (pa_cons (pe_callTy (r := rTupS K) (call_tuple_of) (by rfl) T.b_tuple boot_tuple (pa_cons (pe_lc (own := [("bake", 2)]) rfl sc_Bakery_baking_more.nd (pi_tupK K rfl (pe_fldK K rfl (pv 0) rfl)) (blkOk_by (own := [("bake", 2)]) (N := n_Bakery_baking_more) (sc := defScope s_Bakery_baking_more) (scope := { kind := PySem.ScopeKind.function, names := [ (PySem.Str.ofString ".0", PySem.NameKind.local), (PySem.Str.ofString "bake", PySem.NameKind.local), (PySem.Str.ofString "count", PySem.NameKind.free)], isGenerator := false, isCoroutine := false, more := [] : PySem.Scope }) (by decide +kernel)) (fun _ _ _ _ _ => (pg_name (i := 2) sc_Bakery_baking_more.nd rfl (Or.inl rfl))) (fun _ _ _ _ _ => pts_nil) (fun _ _ _ _ _ => (pe_op op_add (pv 2) (pv 1)))) pa_nil)) (pa_cons (pe_fldK K rfl (pv 0) rfl) (pa_cons (pe_fldK K rfl (pv 0) rfl) pa_nil)))))), ?_⟩
    refine eu_tupL (K := K) (el_tupM (m := m) (ev_fldK (ev_var rfl) fb) hb (by omega) (fun _ => rfl) (fun j x G e hx => ?_)) H (Ex.refl _) _ fun q H1 hq e1 h1 => ev_fldK (K := K) (ev_var rfl) (fd.mono e1) H1 (Ex.refl _) _ fun H2 e2 => ev_fldK (K := K) (ev_var rfl) (fl.mono (e1.trans e2)) H2 (Ex.refl _) _ fun H3 e3 => ?_
    · obtain ⟨rfl, hj⟩ := at_map hx
      exact ev_is (ev_op (ev_var rfl) (ev_var rfl) rv_I0) rfl
    · have e13 := (e1.trans e2).trans e3
      have z := r_make (K := K) (Z := Z) (sp := sp_Binit K Z) (E := E) (Q := Q) (H := H3) (σ := [some (.ref q), some (.ref td), some (.int life)]) (t := tCons (tVar 0) (tCons (tVar 1) (tCons (tVar 2) tNil))) (bs := bs.map (· + m)) (ds := ds) (ea_cons (ev_var rfl) (ea_cons (ev_var rfl) (ea_cons (ev_var rfl) ea_nil))) (st_of (e3 _ _ (e2 _ _ h1))) (ex_t e13 hdd) (by rw [List.length_map]; omega) (by omega) hd (k.mono e13)
      dsimp only [tMake, tCons, tNil] at z
      obtain ⟨v1, r1, v2, r2, v3, r3, z⟩ := z
      cases r1; cases r2; cases r3
      exact z
theorem okM_Bakery_baking_more (T : Txt K mg Z) (hP : P = Z.P) : FnOk P w K mg base (L2.CX P w) 8 Z.f_Bakery_baking_more Z.d_Bakery_baking_more p_Bakery_baking_more (spOr (sp_more K Z) (sp_moreX K Z)) := fn_or (fn_lift (ok_Bakery_baking_more T)) (okX_Bakery_baking_more T hP)
end Sw
namespace Sw
open PySem PySem.Spec PyProof.Rows L2 Evl LamX NdefX
local macro_rules | `(tactic| walk_at "ev") => `(tactic| first
  | exact ev_c
  | exact ev_var rfl
  | ((with_reducible show Ev (tCB rMax2 _) _ _ _); exact ev_maxi (by walk_at "ev") (by walk_at "ev"))
  | ((with_reducible show Ev (tCB rMn _) _ _ _); exact ev_min2 (by walk_at "ev") (by walk_at "ev"))
  | ((with_reducible show Ev (tUn _ _) _ _ _); exact ev_un (by walk_at "ev") ru_neg)
  | ((with_reducible show Ev (tFld _ _ _) _ _ _); exact ev_fldK (by walk_at "ev") (by assumption))
  | ((with_reducible show Ev (tOp (rI0 _) _ _) _ _ _); exact ev_op (by walk_at "ev") (by walk_at "ev") rv_I0)
  | ((with_reducible show Ev (tOp rEq _ _) _ _ _); exact ev_op (by walk_at "ev") (by walk_at "ev") (rv_eq rfl))
  | ((with_reducible show Ev (tOp rNe _ _) _ _ _); exact ev_op (by walk_at "ev") (by walk_at "ev") (rv_ne rfl)))

section
variable {K : PySem.W.Frag} {σ : L2.St} {H : Hp} {to ty te : TE} {p a C dd : Addr} {ys : List V} {y v : V} {n : Str} {fs : List (Str × V)}
theorem ev_cntF (ho : Ev to σ H (.ref p)) (hs : SqL K H p ys) (hy : Ev ty σ H y) (f1 : flatV y = true) (f2 : ys.all flatV = true) : Ev (tBM K "list" (rCntF K) to (tCons ty tNil)) σ H (.int (ys.countP (fun z => eqV z y) : Nat)) := fun H1 e Q q => ho H1 e _ fun H2 e2 =>
  ⟨Or.inl ⟨rfl, ys, ex_l (e.trans e2) hs⟩, hy H2 (e.trans e2) _ fun H3 e3 => ⟨p, ys, y, rfl, rfl, ex_l ((e.trans e2).trans e3) hs, f1, f2, q H3 (e2.trans e3)⟩⟩
theorem ev_idxF {j : Nat} {z : V} (ho : Ev to σ H (.ref p)) (hs : SqL K H p ys) (hy : Ev ty σ H y) (f1 : flatV y = true) (f2 : ys.all flatV = true) (hj : ys[j]? = some z) (hz : eqV z y = true) (hn : ∀ (m : Nat) (z' : V), m < j → ys[m]? = some z' → eqV z' y = false) : Ev (tBM K "list" (rIndex K) to (tCons ty tNil)) σ H (.int (j : Nat)) := fun H1 e Q q => ho H1 e _ fun H2 e2 =>
  ⟨Or.inl ⟨rfl, ys, ex_l (e.trans e2) hs⟩, hy H2 (e.trans e2) _ fun H3 e3 => ⟨p, ys, y, j, z, rfl, rfl, ex_l ((e.trans e2).trans e3) hs, f1, f2, hj, hz, hn, q H3 (e2.trans e3)⟩⟩
theorem ev_xf (he : Ev te σ H (.ref a)) (hx : H dd = some (.xd fs)) (hl : fs.lookup n = some v) : Ev (tXf a (.ref C) (some dd) C n te) σ H v := fun H1 e Q q => he H1 e _ fun H2 e2 => ⟨rfl, rfl, dd, fs, v, rfl, e2 _ _ (e _ _ hx), hl, q H2 e2⟩
end
theorem eu_if {σ : L2.St} {H : Hp} {t : TT} {ta tb : TE} {xs : List V} {b : Bool} (h : EvT t σ H b) (h1 : b = true → EvU ta σ H xs) (h2 : b = false → EvU tb σ H xs) : EvU (tIf t ta tb) σ H xs := fun H1 e Q q => h H1 e _ fun H2 e2 => by
  cases b with
  | true => exact h1 rfl H2 (e.trans e2) Q fun p H3 n e3 x => q p H3 (fresh_back e2 n) (e2.trans e3) x
  | false => exact h2 rfl H2 (e.trans e2) Q fun p H3 n e3 x => q p H3 (fresh_back e2 n) (e2.trans e3) x
variable {P : Program} {w : World} {K : PySem.W.Frag} {mg : Str → Option Value} {base : Heap} {Z : Ad}
/-- what a call of no arguments raises, told as names and values -/
def NoneR (Q : VK) : Hp → Prop := fun H1 => ∀ p H2, H1 p = none → Ex H1 H2 → H2 p = some (.tup [.str "none"]) → Q (.ref p) H2
def BakR (Z : Ad) (Q : VK) : XK := fun cls d H1 => ∃ dd pt i, cls = .ref Z.c_InvalidBakery ∧ d = some dd ∧ H1 dd = some (.xd [("index", .int i), ("part", .str pt)]) ∧ ∀ p H2, H1 p = none → Ex H1 H2 → H2 p = some (.tup [.str "bakery", .str pt, .int i]) → Q (.ref p) H2

theorem ev_isXN {K : PySem.W.Frag} {σ : L2.St} {H : Hp} {te tc : TE} {a D : Addr} {c : V} {cv : Value} {b : Bool} (T : ExI K D) (he : Ev te σ H (.ref a)) (hc : Ev tc σ H c) (hcv : ∀ u, RelV c u → u = cv) (hb : PySem.W.kitOne K (.ref D) cv = some b) :
    Ev (tCB (rIsX K a (.ref D) none) (tCons te (tCons tc tNil))) σ H (.bl b) := fun H1 e Q q => he H1 e _ fun H2 e2 => hc H2 (e.trans e2) _ fun H3 e3 => ⟨D, c, cv, b, rfl, T, rfl, hcv, hb, fun d1 z => (nomatch z), q H3 (e2.trans e3)⟩
def NumR (Z : Ad) (Q : VK) : XK := fun cls d H1 => cls = .ref Z.c_InvalidNumber ∧ d = none ∧ ∀ p H2, H1 p = none → Ex H1 H2 → H2 p = some (.tup [.str "number"]) → Q (.ref p) H2
def DayR (Z : Ad) (Q : VK) : XK := fun cls d H1 => ∃ dd i, cls = .ref Z.c_InvalidDays ∧ d = some dd ∧ H1 dd = some (.xd [("index", .int i)]) ∧ ∀ p H2, H1 p = none → Ex H1 H2 → H2 p = some (.tup [.str "days", .int i]) → Q (.ref p) H2
def ConR (Z : Ad) (Q : VK) : XK := fun cls d H1 => cls = .ref Z.c_Contradiction ∧ d = none ∧ ∀ p H2, H1 p = none → Ex H1 H2 → H2 p = some (.tup [.str "contradiction"]) → Q (.ref p) H2
def ErrR (Z : Ad) (Q : VK) : XK := fun cls d H1 => BakR Z Q cls d H1 ∨ NumR Z Q cls d H1 ∨ DayR Z Q cls d H1 ∨ ConR Z Q cls d H1
def sp_err (P : Program) (w : World) (K : PySem.W.Frag) (mg : Str → Option Value) (base : Heap) (Z : Ad) : Sp := fun vs H Q _ => ∃ (f : Addr) (sp : Sp) (S : Hp), vs = [.ref f] ∧ Cal P w K mg base (L2.CX P w) 11 f sp S ∧ Ex S H ∧
  ∀ (Q1 : VK) (E1 : XK), (∀ v H1, NoneR Q H1 → Q1 v H1) → (∀ cls d H1, ErrR Z Q cls d H1 → E1 cls d H1) → sp [] H Q1 E1
theorem ok__law_error (T : Txt K mg Z) : FnOk P w K mg base CX0 12 Z.f__law_error Z.d__law_error p__law_error (sp_err P w K mg base Z) := by
  refine T.F__law_error.ok sc__law_error (fun vs H Q E h => ?_) (fun cdv Ar outer s H vs Q E hr h => ?_)
  · obtain ⟨f, sp, S, rfl, _⟩ := h
    rfl
  · obtain ⟨f, sp, S, rfl, C, eS, q⟩ := h
    refine ⟨_, (pss_cons (ps_try_as (i := 1) (Wout := fun _ _ _ _ => False) rfl rfl sc__law_error.nd rfl rfl ⟨rfl, by decide, Or.inl T.g_LoafError⟩ L2.takes0 (by exact (fun W pn xe tk _ => (pss_one (ps_expr (pe_calS (CX := L2.CX P w) (i := 0) (k := 11) P w K mg base rfl rfl rfl rfl rfl hr (by decide) (fun σ => passAt tk σ) rfl (by first | exact Or.inl rfl | exact Or.inr (Or.inl rfl) | exact Or.inr (Or.inr rfl))))))) (by exact (fun a oe cls d pn hz hf => (pss_cons (by exact (ps_set (i := 2) sc__law_error.nd rfl (Or.inl rfl) (pe_lst (pa_cons (pe_callB (r := rIsX K a cls d) (call_isX K rfl hz hf) (by rfl) T.b_isinstance boot_isinstance (pa_cons (pv 1) (pa_cons (pe_glob (by rfl) T.g_Contradiction (v := .ref Z.c_Contradiction) rfl) pa_nil))) (pa_cons (pe_callB (r := rIsX K a cls d) (call_isX K rfl hz hf) (by rfl) T.b_isinstance boot_isinstance (pa_cons (pv 1) (pa_cons (pe_glob (by rfl) T.g_InvalidBakery (v := .ref Z.c_InvalidBakery) rfl) pa_nil))) (pa_cons (pe_callB (r := rIsX K a cls d) (call_isX K rfl hz hf) (by rfl) T.b_isinstance boot_isinstance (pa_cons (pv 1) (pa_cons (pe_glob (by rfl) T.g_InvalidDays (v := .ref Z.c_InvalidDays) rfl) pa_nil))) pa_nil))))))
      (pss_cons (by exact (ps_expr (pe_bmK K rfl PySem.F.plainAttrs_list PySem.F.slot_list_append PySem.F.type_list_append mt_append (pv 2) (pa_cons (pe_callB (r := rIsX K a cls d) (call_isX K rfl hz hf) (by rfl) T.b_isinstance boot_isinstance (pa_cons (pv 1) (pa_cons (pe_glob (by rfl) T.g_InvalidNumber (v := .ref Z.c_InvalidNumber) rfl) pa_nil))) pa_nil))))
      (pss_cons (by exact (ps_if (PW.pt (pw_or (pt_cmpR op_ne (pe_bmK K rfl PySem.F.plainAttrs_list PySem.F.slot_list_count PySem.F.type_list_count (mt_lcountF K rfl) (pv 2) (pa_cons pe_bl pa_nil)) pe_int (nomark _)) (pw_or1 (pt_not (pt_val (pe_callB (r := rIsX K a cls d) (call_isX K rfl hz hf) (by rfl) T.b_isinstance boot_isinstance (pa_cons (pv 1) (pa_cons (pe_bltn (v := .ty "ValueError") (by rfl) T.b_ValueError PyProof.Rows.Boot.«ValueError» rfl) pa_nil)))))))) (pss_one (by exact (ps_ret (pe_tup (pa_cons pe_str pa_nil))))) pss_nil))
      (pss_cons (by exact (ps_set (i := 3) sc__law_error.nd rfl (Or.inl rfl) (pe_ix (r := rIxL K) ix_list (pe_lst (pa_cons pe_str (pa_cons pe_str (pa_cons pe_str (pa_cons pe_str pa_nil))))) (pe_bmK K rfl PySem.F.plainAttrs_list PySem.F.slot_list_index PySem.F.type_list_index (mt_indexK K rfl) (pv 2) (pa_cons pe_bl pa_nil)) (fun _ _ => rfl))))
      (pss_cons (by exact (ps_if (pt_cmpR op_eq (pv 3) pe_str (nomark _)) (pss_one (by exact (ps_ret (pe_tup (pa_cons (pv 3) (pa_cons (pe_xf T.xI_InvalidBakery.xf T.na_InvalidBakery_part hz hf (pv 1)) (pa_cons (pe_xf T.xI_InvalidBakery.xf T.na_InvalidBakery_index hz hf (pv 1)) pa_nil))))))) pss_nil))
      (pss_one (by exact (ps_ret (pe_ifExp (pt_cmpR op_eq (pv 3) pe_str (nomark _)) (pe_tup (pa_cons (pv 3) (pa_cons (pe_xf T.xI_InvalidDays.xf T.na_InvalidDays_index hz hf (pv 1)) pa_nil))) (pe_tup (pa_cons (pv 3) pa_nil))))))))))))))
      (pss_one (ps_ret (pe_tup (pa_cons pe_str pa_nil))))), ?_⟩
    refine ⟨f, sp, S, rfl, C, eS, q _ _ ?_ ?_⟩
    · intro v H1 h
      exact s_retU (σ := L2.start n__law_error [.ref f]) (xs := [.str "none"]) (eu_tup (ea_cons ev_c ea_nil) (by show 1 ≤ 100000; decide)) h
    rintro cls d H1 (⟨dd, pt, i, rfl, rfl, hx, h⟩ | ⟨rfl, rfl, h⟩ | ⟨dd, i, rfl, rfl, hx, h⟩ | ⟨rfl, rfl, h⟩)
    · refine ⟨true, T.xm_InvalidBakery, fun _ a na => ?_, fun z => nomatch z⟩
      refine q_asgL (xs := [.bl false, .bl true, .bl false]) (el_lst (ea_cons (ev_isX T.xI_InvalidBakery (ev_var rfl) ev_c (fun u r => r) T.xk_InvalidBakery_Contradiction hx) (ea_cons (ev_isX T.xI_InvalidBakery (ev_var rfl) ev_c (fun u r => r) T.xk_InvalidBakery_InvalidBakery hx) (ea_cons (ev_isX T.xI_InvalidBakery (ev_var rfl) ev_c (fun u r => r) T.xk_InvalidBakery_InvalidDays hx) ea_nil))) (by show 3 ≤ 100000; decide)) fun l H2 hl e2 h2 => ?_
      refine q_app h2 (ev_var rfl) (ev_isX T.xI_InvalidBakery (ev_var rfl) ev_c (fun u r => r) T.xk_InvalidBakery_InvalidNumber (e2 _ _ hx)) (by show 3 < 100000; decide) fun H3 e3 => ?_
      have nl : H1 l = none := hl
      have e4 : Ex H1 (upd H3 l (.lst ([V.bl false, .bl true, .bl false] ++ [.bl false]))) := fun b o z => by
        rw [upd_ne (ne_of_none z nl)]; exact e3 _ _ (e2 _ _ z)
      generalize hG : upd H3 l (.lst ([V.bl false, .bl true, .bl false] ++ [.bl false])) = H4 at e4 ⊢
      have h4 : H4 l = some (.lst [.bl false, .bl true, .bl false, .bl false]) := by rw [← hG, upd_same]; rfl
      have sl : SqL K H4 l [.bl false, .bl true, .bl false, .bl false] := sq_of h4
      have hx4 := e4 _ _ hx
      refine q_when (b := false) (et_is (et_or (et_test (ev_op (ev_cntF (ev_var rfl) sl ev_c rfl rfl) ev_c (rv_ne rfl))) fun _ => et_not (et_B (ev_isX T.xI_InvalidBakery (ev_var rfl) ev_c (fun u r => r) T.xv_InvalidBakery hx4))) (by decide)) (fun hb => nomatch hb) fun _ H5 e5 => ?_
      refine q_asg (v := .str "bakery") (ev_ixNL (i := 1) (xs := [.str "contradiction", .str "bakery", .str "days", .str "number"]) (el_lst (ea_cons ev_c (ea_cons ev_c (ea_cons ev_c (ea_cons ev_c ea_nil)))) (by show 4 ≤ 100000; decide)) (ev_idxF (j := 1) (ev_var rfl) (ex_l e5 sl) ev_c rfl rfl rfl rfl (fun m z' hm e => ?_)) rfl) fun H6 e6 => ?_
      · match m, hm, e with
        | 0, _, e => cases e; rfl
      have hx6 := e6 _ _ (e5 _ _ hx4)
      refine q_when (b := true) (et_is (et_test (ev_op (ev_var rfl) ev_c (rv_eq rfl))) (by simp)) (fun _ H7 e7 => ?_) fun hb => nomatch hb
      refine s_retU (xs := [.str "bakery", .str pt, .int i]) (eu_tup (ea_cons (ev_var rfl) (ea_cons (ev_xf (ev_var rfl) (e7 _ _ hx6) rfl) (ea_cons (ev_xf (ev_var rfl) (e7 _ _ hx6) rfl) ea_nil))) (by show 3 ≤ 100000; decide)) fun p H8 hp e8 h8 => ?_
      have e17 := ((e4.trans e5).trans e6).trans e7
      exact h p H8 (fresh_back e17 hp) (e17.trans e8) h8
    · refine ⟨true, T.xm_InvalidNumber, fun _ a na => ?_, fun z => nomatch z⟩
      refine q_asgL (xs := [.bl false, .bl false, .bl false]) (el_lst (ea_cons (ev_isXN T.xI_InvalidNumber (ev_var rfl) ev_c (fun u r => r) T.xk_InvalidNumber_Contradiction) (ea_cons (ev_isXN T.xI_InvalidNumber (ev_var rfl) ev_c (fun u r => r) T.xk_InvalidNumber_InvalidBakery) (ea_cons (ev_isXN T.xI_InvalidNumber (ev_var rfl) ev_c (fun u r => r) T.xk_InvalidNumber_InvalidDays) ea_nil))) (by show 3 ≤ 100000; decide)) fun l H2 hl e2 h2 => ?_
      refine q_app h2 (ev_var rfl) (ev_isXN T.xI_InvalidNumber (ev_var rfl) ev_c (fun u r => r) T.xk_InvalidNumber_InvalidNumber) (by show 3 < 100000; decide) fun H3 e3 => ?_
      have nl : H1 l = none := hl
      have e4 : Ex H1 (upd H3 l (.lst ([V.bl false, .bl false, .bl false] ++ [.bl true]))) := fun b o z => by
        rw [upd_ne (ne_of_none z nl)]; exact e3 _ _ (e2 _ _ z)
      generalize hG : upd H3 l (.lst ([V.bl false, .bl false, .bl false] ++ [.bl true])) = H4 at e4 ⊢
      have h4 : H4 l = some (.lst [.bl false, .bl false, .bl false, .bl true]) := by rw [← hG, upd_same]; rfl
      have sl : SqL K H4 l [.bl false, .bl false, .bl false, .bl true] := sq_of h4
      refine q_when (b := false) (et_is (et_or (et_test (ev_op (ev_cntF (ev_var rfl) sl ev_c rfl rfl) ev_c (rv_ne rfl))) fun _ => et_not (et_B (ev_isXN T.xI_InvalidNumber (ev_var rfl) ev_c (fun u r => r) T.xv_InvalidNumber))) (by decide)) (fun hb => nomatch hb) fun _ H5 e5 => ?_
      refine q_asg (v := .str "number") (ev_ixNL (i := 3) (xs := [.str "contradiction", .str "bakery", .str "days", .str "number"]) (el_lst (ea_cons ev_c (ea_cons ev_c (ea_cons ev_c (ea_cons ev_c ea_nil)))) (by show 4 ≤ 100000; decide)) (ev_idxF (j := 3) (ev_var rfl) (ex_l e5 sl) ev_c rfl rfl rfl rfl (fun m z' hm e => ?_)) rfl) fun H6 e6 => ?_
      · match m, hm, e with
        | 0, _, e => cases e; rfl
        | 1, _, e => cases e; rfl
        | 2, _, e => cases e; rfl
      refine q_when (b := false) (et_is (et_test (ev_op (ev_var rfl) ev_c (rv_eq rfl))) (by decide +kernel)) (fun hb => nomatch hb) fun _ H7 e7 => ?_
      refine s_retU (xs := [.str "number"]) (eu_if (b := false) (et_is (et_test (ev_op (ev_var rfl) ev_c (rv_eq rfl))) (by decide +kernel)) (fun hb => nomatch hb) fun _ => eu_tup (ea_cons (ev_var rfl) ea_nil) (by show 1 ≤ 100000; decide)) fun p H8 hp e8 h8 => ?_
      have e17 := ((e4.trans e5).trans e6).trans e7
      exact h p H8 (fresh_back e17 hp) (e17.trans e8) h8
    · refine ⟨true, T.xm_InvalidDays, fun _ a na => ?_, fun z => nomatch z⟩
      refine q_asgL (xs := [.bl false, .bl false, .bl true]) (el_lst (ea_cons (ev_isX T.xI_InvalidDays (ev_var rfl) ev_c (fun u r => r) T.xk_InvalidDays_Contradiction hx) (ea_cons (ev_isX T.xI_InvalidDays (ev_var rfl) ev_c (fun u r => r) T.xk_InvalidDays_InvalidBakery hx) (ea_cons (ev_isX T.xI_InvalidDays (ev_var rfl) ev_c (fun u r => r) T.xk_InvalidDays_InvalidDays hx) ea_nil))) (by show 3 ≤ 100000; decide)) fun l H2 hl e2 h2 => ?_
      refine q_app h2 (ev_var rfl) (ev_isX T.xI_InvalidDays (ev_var rfl) ev_c (fun u r => r) T.xk_InvalidDays_InvalidNumber (e2 _ _ hx)) (by show 3 < 100000; decide) fun H3 e3 => ?_
      have nl : H1 l = none := hl
      have e4 : Ex H1 (upd H3 l (.lst ([V.bl false, .bl false, .bl true] ++ [.bl false]))) := fun b o z => by
        rw [upd_ne (ne_of_none z nl)]; exact e3 _ _ (e2 _ _ z)
      generalize hG : upd H3 l (.lst ([V.bl false, .bl false, .bl true] ++ [.bl false])) = H4 at e4 ⊢
      have h4 : H4 l = some (.lst [.bl false, .bl false, .bl true, .bl false]) := by rw [← hG, upd_same]; rfl
      have sl : SqL K H4 l [.bl false, .bl false, .bl true, .bl false] := sq_of h4
      have hx4 := e4 _ _ hx
      refine q_when (b := false) (et_is (et_or (et_test (ev_op (ev_cntF (ev_var rfl) sl ev_c rfl rfl) ev_c (rv_ne rfl))) fun _ => et_not (et_B (ev_isX T.xI_InvalidDays (ev_var rfl) ev_c (fun u r => r) T.xv_InvalidDays hx4))) (by decide)) (fun hb => nomatch hb) fun _ H5 e5 => ?_
      refine q_asg (v := .str "days") (ev_ixNL (i := 2) (xs := [.str "contradiction", .str "bakery", .str "days", .str "number"]) (el_lst (ea_cons ev_c (ea_cons ev_c (ea_cons ev_c (ea_cons ev_c ea_nil)))) (by show 4 ≤ 100000; decide)) (ev_idxF (j := 2) (ev_var rfl) (ex_l e5 sl) ev_c rfl rfl rfl rfl (fun m z' hm e => ?_)) rfl) fun H6 e6 => ?_
      · match m, hm, e with
        | 0, _, e => cases e; rfl
        | 1, _, e => cases e; rfl
      have hx6 := e6 _ _ (e5 _ _ hx4)
      refine q_when (b := false) (et_is (et_test (ev_op (ev_var rfl) ev_c (rv_eq rfl))) (by decide +kernel)) (fun hb => nomatch hb) fun _ H7 e7 => ?_
      refine s_retU (xs := [.str "days", .int i]) (eu_if (b := true) (et_is (et_test (ev_op (ev_var rfl) ev_c (rv_eq rfl))) (by decide +kernel)) (fun _ => eu_tup (ea_cons (ev_var rfl) (ea_cons (ev_xf (ev_var rfl) (e7 _ _ hx6) rfl) ea_nil)) (by show 2 ≤ 100000; decide)) fun hb => nomatch hb) fun p H8 hp e8 h8 => ?_
      have e17 := ((e4.trans e5).trans e6).trans e7
      exact h p H8 (fresh_back e17 hp) (e17.trans e8) h8
    · refine ⟨true, T.xm_Contradiction, fun _ a na => ?_, fun z => nomatch z⟩
      refine q_asgL (xs := [.bl true, .bl false, .bl false]) (el_lst (ea_cons (ev_isXN T.xI_Contradiction (ev_var rfl) ev_c (fun u r => r) T.xk_Contradiction_Contradiction) (ea_cons (ev_isXN T.xI_Contradiction (ev_var rfl) ev_c (fun u r => r) T.xk_Contradiction_InvalidBakery) (ea_cons (ev_isXN T.xI_Contradiction (ev_var rfl) ev_c (fun u r => r) T.xk_Contradiction_InvalidDays) ea_nil))) (by show 3 ≤ 100000; decide)) fun l H2 hl e2 h2 => ?_
      refine q_app h2 (ev_var rfl) (ev_isXN T.xI_Contradiction (ev_var rfl) ev_c (fun u r => r) T.xk_Contradiction_InvalidNumber) (by show 3 < 100000; decide) fun H3 e3 => ?_
      have nl : H1 l = none := hl
      have e4 : Ex H1 (upd H3 l (.lst ([V.bl true, .bl false, .bl false] ++ [.bl false]))) := fun b o z => by
        rw [upd_ne (ne_of_none z nl)]; exact e3 _ _ (e2 _ _ z)
      generalize hG : upd H3 l (.lst ([V.bl true, .bl false, .bl false] ++ [.bl false])) = H4 at e4 ⊢
      have h4 : H4 l = some (.lst [.bl true, .bl false, .bl false, .bl false]) := by rw [← hG, upd_same]; rfl
      have sl : SqL K H4 l [.bl true, .bl false, .bl false, .bl false] := sq_of h4
      refine q_when (b := false) (et_is (et_or (et_test (ev_op (ev_cntF (ev_var rfl) sl ev_c rfl rfl) ev_c (rv_ne rfl))) fun _ => et_not (et_B (ev_isXN T.xI_Contradiction (ev_var rfl) ev_c (fun u r => r) T.xv_Contradiction))) (by decide)) (fun hb => nomatch hb) fun _ H5 e5 => ?_
      refine q_asg (v := .str "contradiction") (ev_ixNL (i := 0) (xs := [.str "contradiction", .str "bakery", .str "days", .str "number"]) (el_lst (ea_cons ev_c (ea_cons ev_c (ea_cons ev_c (ea_cons ev_c ea_nil)))) (by show 4 ≤ 100000; decide)) (ev_idxF (j := 0) (ev_var rfl) (ex_l e5 sl) ev_c rfl rfl rfl rfl (fun m z' hm e => absurd hm (Nat.not_lt_zero _))) rfl) fun H6 e6 => ?_
      refine q_when (b := false) (et_is (et_test (ev_op (ev_var rfl) ev_c (rv_eq rfl))) (by decide +kernel)) (fun hb => nomatch hb) fun _ H7 e7 => ?_
      refine s_retU (xs := [.str "contradiction"]) (eu_if (b := false) (et_is (et_test (ev_op (ev_var rfl) ev_c (rv_eq rfl))) (by decide +kernel)) (fun hb => nomatch hb) fun _ => eu_tup (ea_cons (ev_var rfl) ea_nil) (by show 1 ≤ 100000; decide)) fun p H8 hp e8 h8 => ?_
      have e17 := ((e4.trans e5).trans e6).trans e7
      exact h p H8 (fresh_back e17 hp) (e17.trans e8) h8
/-! ### a number out of its range -/
def sp_numX (Z : Ad) : Sp := fun vs H _ E => ∃ n lo hi : Int, vs = [.int n, .int lo, .int hi] ∧ (n < lo ∨ hi < n) ∧ n.natAbs < 10 ^ 30 ∧ lo.natAbs < 10 ^ 30 ∧ hi.natAbs < 10 ^ 30 ∧ ∀ H', Ex H H' → E (.ref Z.c_InvalidNumber) none H'
theorem log_sm {i : Int} (h : i.natAbs < 10 ^ 30) : i.natAbs.log2 < 1920 := by
  rcases Nat.eq_zero_or_pos i.natAbs with q | q
  · rw [q]; decide
  · exact (Nat.log2_lt (by omega)).mpr (Nat.lt_of_lt_of_le h (by decide))
theorem len_sm {i : Int} (h : i.natAbs < 10 ^ 30) : (Str.ofString (toString i)).length ≤ 31 := by
  rw [PySem.ofString_length]
  exact int_text_length_le10 (k := 30) (by decide) h
theorem okX_check_number (T : Txt K mg Z) (hP : P = Z.P) : FnOk P w K mg base (L2.CX P w) 1 Z.f_check_number Z.d_check_number p_check_number (sp_numX Z) := by
  refine T.F_check_number.okX sc_check_number (fun vs H Q E h => ?_) (fun cdv Ar outer s H vs Q E hr h => ?_)
  · obtain ⟨n, lo, hi, rfl, _⟩ := h
    rfl
  · obtain ⟨n, lo, hi, rfl, hb, h1, h2, h3, k⟩ := h
    refine ⟨_, (pss_one (ps_if (PW.pt (pw_or (pt_cmpR op_lt (pv 0) (pv 1) (nomark _)) (pw_or1 (pt_cmpR op_gt (pv 0) (pv 2) (nomark _))))) (pss_one (ps_raise rfl (takes_of rfl rfl rfl rfl) (pmk_ownA PySem.F.excBase_ValueError T.xp_InvalidNumber T.g_InvalidNumber T.xq_InvalidNumber (raises_own T.xb_InvalidNumber T.xy_InvalidNumber) (by rfl) (pa_cons (pe_joined (.cons (pe_fmt (pv 0)) (.cons pe_str (.cons (pe_fmt (pv 1)) (.cons pe_str (.cons (pe_fmt (pv 2)) .nil)))))) pa_nil)))) pss_nil)), ?_⟩
    refine s_when (b := true) (et_is (et_or (et_test (by walk_at "ev")) fun _ => et_test (by walk_at "ev")) (by simp; omega)) (fun _ H1 e1 => ?_) fun hb => nomatch hb
    have hz := sizeLine_eq
    have a1 := len_sm h1
    have a2 := len_sm h2
    have a3 := len_sm h3
    have l0 : Str.empty.length = 0 := rfl
    have l1 : (Str.ofString " is not from ").length = 13 := by decide +kernel
    have l2 : (Str.ofString " to ").length = 4 := by decide +kernel
    refine ⟨_, rfl, .inr ⟨n, rfl, log_sm h1, _, rfl, ?_, _, rfl, ?_, _, rfl, .inr ⟨lo, rfl, log_sm h2, _, rfl, ?_, _, rfl, ?_, _, rfl, .inr ⟨hi, rfl, log_sm h3, _, rfl, ?_, by show 1 ≤ sizeLine; omega, k H1 e1⟩⟩⟩⟩
    · rw [Str.length_append]; omega
    · simp only [Str.length_append]; omega
    · simp only [Str.length_append]; omega
    · simp only [Str.length_append]; omega
    · simp only [Str.length_append]; omega
end Sw
namespace Sw
open PySem PySem.Spec PyProof.Rows L2 Evl LamX NdefX
local macro_rules | `(tactic| walk_at "ev") => `(tactic| first
  | exact ev_c
  | exact ev_var rfl
  | ((with_reducible show Ev (tCB rMax2 _) _ _ _); exact ev_maxi (by walk_at "ev") (by walk_at "ev"))
  | ((with_reducible show Ev (tCB rMn _) _ _ _); exact ev_min2 (by walk_at "ev") (by walk_at "ev"))
  | ((with_reducible show Ev (tUn _ _) _ _ _); exact ev_un (by walk_at "ev") ru_neg)
  | ((with_reducible show Ev (tFld _ _ _) _ _ _); exact ev_fldK (by walk_at "ev") (by assumption))
  | ((with_reducible show Ev (tOp (rI0 _) _ _) _ _ _); exact ev_op (by walk_at "ev") (by walk_at "ev") rv_I0)
  | ((with_reducible show Ev (tOp rEq _ _) _ _ _); exact ev_op (by walk_at "ev") (by walk_at "ev") (rv_eq rfl))
  | ((with_reducible show Ev (tOp rNe _ _) _ _ _); exact ev_op (by walk_at "ev") (by walk_at "ev") (rv_ne rfl)))

variable {P : Program} {w : World} {K : PySem.W.Frag} {mg : Str → Option Value} {base : Heap} {Z : Ad}
section
variable {σ : L2.St} {H : Hp} {ta tb te : TE} {b : Addr} {bs ds : List Int} {life : Int} {i : Nat} {E : XK}
theorem ev_lifeP (h : Ev ta σ H (.ref b)) (hB : BakAt K Z H b bs ds life i) : Ev (tProp Z.c_Bakery (sp_Blife K Z) [] E ta) σ H (.int life) := fun H1 e Q q => h H1 e _ fun H2 e2 => let ⟨dx, fs, h1⟩ := hB.inst; ⟨b, dx, fs, rfl, e2 _ _ (e _ _ h1), b, bs, ds, life, i, rfl, hB.mono (e.trans e2), fun H3 e3 => q H3 (e2.trans e3)⟩
end
end Sw
namespace Sw
open PySem PySem.Spec PyProof.Rows L2 Evl LamX NdefX
local macro_rules | `(tactic| walk_at "ev") => `(tactic| first
  | exact ev_c
  | exact ev_var rfl
  | ((with_reducible show Ev (tCB rMax2 _) _ _ _); exact ev_maxi (by walk_at "ev") (by walk_at "ev"))
  | ((with_reducible show Ev (tCB rMn _) _ _ _); exact ev_min2 (by walk_at "ev") (by walk_at "ev"))
  | ((with_reducible show Ev (tUn _ _) _ _ _); exact ev_un (by walk_at "ev") ru_neg)
  | ((with_reducible show Ev (tFld _ _ _) _ _ _); exact ev_fldK (by walk_at "ev") (by assumption))
  | ((with_reducible show Ev (tOp (rI0 _) _ _) _ _ _); exact ev_op (by walk_at "ev") (by walk_at "ev") rv_I0)
  | ((with_reducible show Ev (tOp rEq _ _) _ _ _); exact ev_op (by walk_at "ev") (by walk_at "ev") (rv_eq rfl))
  | ((with_reducible show Ev (tOp rNe _ _) _ _ _); exact ev_op (by walk_at "ev") (by walk_at "ev") (rv_ne rfl)))

/-! ### comprehensions: pairs from zip, new objects -/
section
variable {X : Cx}
theorem pi_zipK (K : PySem.W.Frag) {e e2 : Expr} {ta : TA} {p pos tpos : Pos} {elts : List Expr} {kk : Nat} (hK : X.K = K) (hg : Gl X "zip") (hm : X.mg "zip" = none) (ha : PA X [e, e2] ta)
    (hs : starEach [e, e2] X.env = (false, eval e X.env) :: starEach [e2] X.env := by rfl) (hpl : (backTo pos (starEach [e2] X.env)).any (·.1) = false := by rfl) :
    PI X (.Tuple elts kk tpos) (.Call (.Name "zip" p) [e, e2] [] pos) (iZip K ta) := by
  subst hK
  exact pi_zip hg hm ha hs hpl
end
theorem given_gen {α : Type} {ns : List α} {d : α} {f : α → Bool} {v : α → V} : given ns.length (fun i => f (ns.getD i d)) (fun i => v (ns.getD i d)) = (ns.filter f).map v := by
  have e : ns = (List.range ns.length).map fun i => ns.getD i d := by
    apply List.ext_getElem
    · simp
    · intro i h1 h2
      simp [List.getD, h1]
  have e2 : ns.filter f = ((List.range ns.length).filter fun i => f (ns.getD i d)).map fun i => ns.getD i d := by
    conv => lhs; rw [e]
    rw [List.filter_map]; rfl
  rw [e2, List.map_map]; rfl
theorem given_map {α : Type} {ns : List α} {d : α} {v : α → V} : given ns.length (fun _ => true) (fun i => v (ns.getD i d)) = ns.map v := by
  have z := given_gen (ns := ns) (d := d) (f := fun _ => true) (v := v)
  rw [List.filter_eq_self.mpr (fun _ _ => rfl)] at z
  exact z
theorem at_mapG {α : Type} {ns : List α} {v : α → V} {d : α} {i : Nat} {x : V} (h : (ns.map v)[i]? = some x) : x = v (ns.getD i d) ∧ i < ns.length ∧ ns.getD i d ∈ ns := by
  rw [List.getElem?_map] at h
  obtain ⟨y, hy, rfl⟩ := Option.map_eq_some_iff.mp h
  obtain ⟨lt, e⟩ := List.getElem?_eq_some_iff.mp hy
  have e2 : ns.getD i d = y := by simp [List.getD, hy]
  rw [e2]
  exact ⟨rfl, lt, List.mem_of_getElem? hy⟩
section
variable {K : PySem.W.Frag} {σ : L2.St} {H H' : Hp} {ta tb te : TE} {x y z v : V} {a b : Addr} {xs ys : List V} {D : Ends} {tz : TS}
theorem wipeP {j1 j2 : Nat} (hne : j1 ≠ j2) (x y : V) : wipe (((wipe σ [j1, j2]).set j1 (some x)).set j2 (some y)) [j1, j2] = wipe σ [j1, j2] := by
  simp only [wipe]
  rw [List.set_set, List.set_set, List.set_comm _ _ hne, List.set_set, List.set_set]
theorem el_lcZ {j1 j2 : Nat} {t : TA} {tt : TT} (hne : j1 ≠ j2) (h : EvA t σ H [.ref a, .ref b]) (hx : SqL K H a xs) (hy : SqL K H b ys) (hl : xs.length = ys.length) (hz : xs.length ≤ 40000) (f : Nat → Bool) (v : Nat → V)
    (ht : ∀ (i : Nat) x y H1, Ex H H1 → xs[i]? = some x → ys[i]? = some y → EvT tt (((wipe σ [j1, j2]).set j1 (some x)).set j2 (some y)) H1 (f i)) (he : ∀ (i : Nat) x y H1, Ex H H1 → xs[i]? = some x → ys[i]? = some y → f i = true → Ev te (((wipe σ [j1, j2]).set j1 (some x)).set j2 (some y)) H1 (v i)) :
    EvL (tLc (iZip K t) (gTup K 2 (gCons (gName j1) (gCons (gName j2) gNil))) tt te [j1, j2]) σ H (given xs.length f v) := fun H0 e0 Q q =>
  h H0 e0 _ fun H1 e1 => ⟨a, b, xs, ys, rfl, ex_l (e0.trans e1) hx, ex_l (e0.trans e1) hy, fun Dl hD => by
    have e01 := e0.trans e1
    refine lc_it (walk_zip (K := K) (a := a) (b := b) (xs := xs) (ys := ys) (n := xs.length) (by omega)) (Cw H1 f v Dl) ⟨hD, Ex.new hD, upd_same⟩ (fun i H' _ p => ⟨ex_l (e01.trans p.2.1) hx, ex_l (e01.trans p.2.1) hy⟩) (fun i w H' H2 hi p y => ?_) (fun H' p => q Dl H' (fresh_back e1 p.1) (e1.trans p.2.1) p.2.2)
    obtain ⟨T, x, y, rfl, hT, rfl, q1, q2⟩ := y
    have p' : Cw H1 f v Dl i (upd H' T (.tup [x, y])) := ⟨p.1, p.2.1.trans (Ex.new hT), (Ex.new hT) _ _ p.2.2⟩
    refine ⟨T, [x, y], rfl, st_of upd_same, rfl, _, _, rfl, _, _, rfl, rfl, wipeP hne _ _, ?_⟩
    exact cw_turn p' (by omega) (ht i x y H1 e01 q1 q2) (fun hf => he i x y H1 e01 q1 q2 hf)⟩
theorem er_lcO {j : Nat} {vs : List Nat} {t : TA} {lo hi : Int} {M : Addr → Prop} {Pr : Int → Addr → Hp → Prop} (h : EvA t σ H [.int lo, .int hi]) (hn : 0 ≤ lo ∧ lo ≤ hi ∧ hi ≤ 10000) (hw : ∀ x, wipe ((wipe σ vs).set j (some x)) vs = wipe σ vs) (mono : ∀ i p H1 H2, Ex H1 H2 → Pr i p H1 → Pr i p H2)
    (he : ∀ (i : Int) H1 (M' : Addr → Prop), Ex H H1 → Ex (wn H M) (wn H1 M') → lo ≤ i → i < hi → EvR te ((wipe σ vs).set j (some (.int i))) H1 M' (Pr i)) :
    EvR (tLc (iRng2 t) (gName j) tYes te vs) σ H M (fun p G => ∃ bl : List (Addr × Int), G p = some (.lst (bl.map fun x => V.ref x.1)) ∧ bl.map (·.2) = (List.range (hi - lo).toNat).map (fun (k : Nat) => lo + (k : Int)) ∧ ∀ x ∈ bl, Pr x.2 x.1 G) := fun H0 e0 kn Q q =>
  h H0 e0 _ fun H1 e1 => ⟨lo, hi, rfl, ⟨by omega, by omega, by omega, by omega⟩, fun Dl hD => by
    have nH : H Dl = none := fresh_back (e0.trans e1) hD
    have nM : ¬ M Dl := fun z => kn Dl z (fresh_back e1 hD)
    refine lc_range (lo := lo) (n := (hi - lo).toNat) (fun i H' => Ex H1 H' ∧ ∃ bl : List (Addr × Int), H' Dl = some (.lst (bl.map fun x => V.ref x.1)) ∧ bl.map (·.2) = (List.range i).map (fun (k : Nat) => lo + (k : Int)) ∧ ∀ x ∈ bl, Pr x.2 x.1 (wn H' (nx Dl M))) ⟨Ex.new hD, [], upd_same, rfl, by simp⟩ (fun i H' hi' p => ?_) (fun H' p => ?_)
    · obtain ⟨eH, bl, hL, hm, hP⟩ := p
      refine ⟨hw _, ?_⟩
      show te ((wipe σ vs).set j (some (.int (lo + (i : Int))))) H' _
      refine he (lo + (i : Int)) H' (nx Dl M) ((e0.trans e1).trans eH) (fun b o hb => ?_) (by omega) (by omega) H' (Ex.refl _) (fun b hb => ?_) _ fun p H3 np e3 hP3 => ?_
      · obtain ⟨q1, q2⟩ := wn_some hb
        rw [wn_ni (fun z => z.elim (fun z => by rw [z, nH] at q2; cases q2) q1)]
        exact ((e0.trans e1).trans eH) _ _ q2
      · rcases hb with rfl | hb
        · rw [hL]; exact fun z => nomatch z
        · exact fun z => kn b hb (fresh_back (e1.trans eH) z)
      · have h3 := e3 _ _ hL
        have hl3 : bl.length = i := by
          have z := congrArg List.length hm
          simpa using z
        have w3 : Ex (wn H3 (nx Dl M)) (wn (upd H3 Dl (.lst ((bl.map fun x => V.ref x.1) ++ [.ref p]))) (nx Dl M)) := wn_upd (.inl rfl)
        refine ⟨_, h3, by rw [List.length_map]; exact sz_lt (by omega), Ex.mut (eH.trans e3) hD, bl ++ [(p, lo + (i : Int))], by rw [upd_same, List.map_append]; rfl, by rw [List.map_append, hm, List.range_succ, List.map_append]; rfl, fun x hx => ?_⟩
        rcases List.mem_append.mp hx with z | z
        · exact mono _ _ _ _ ((wn_mono e3).trans w3) (hP x z)
        · rw [List.mem_singleton.mp z]; exact mono _ _ _ _ w3 hP3
    · obtain ⟨eH, bl, hL, hm, hP⟩ := p
      exact q Dl H' (fresh_back e1 hD) (e1.trans eH) ⟨bl, (wn_ni nM).trans hL, hm, fun x hx => mono _ _ _ _ (wn_sub fun b z => .inr z) (hP x hx)⟩⟩
theorem r_meth {C : Addr} {m : Str} {sp : Sp} {dvs : List V} {E : XK} {t : TA} {Q : VK} (h : Ev ta σ H (.ref a)) (nf : NoF H a C m) (k : ∀ H1, Ex H H1 → t σ H1 fun vs H2 => sp (.ref a :: (vs ++ dvs)) H2 Q E) : tMeth C m sp dvs E ta t σ H Q :=
  h H (Ex.refl _) _ fun H2 e2 => let ⟨dx, fs, h1, h2⟩ := nf; ⟨a, dx, fs, rfl, e2 _ _ h1, h2, k H2 e2⟩
theorem s_fldN {C dx : Addr} {fs : List (Str × V)} {f : Str} {M : Addr → Prop} (ha : M a) (kn : ∀ b, M b → H b ≠ none) (h : EvL te σ H xs) (ho : ∀ H1, Ex H H1 → Ev ta σ H1 (.ref a)) (hx : H a = some (.ins C dx fs)) (c : Cls K C) (n : NoAttr K C f) (hl : fs.length < 1000)
    (k : ∀ p S, H p = none → S p = some (.lst xs) → S a = some (.ins C dx (putF f (.ref p) fs)) → Go M a H S → D.nx σ S) : sFld K ta te f D σ H := s_fldL h ho hx c n hl fun p H1 hp e h1 =>
  k p _ hp (by rw [upd_ne (fun z => kn a ha (by rw [← z]; exact hp))]; exact h1) upd_same (Go.up ha kn e)
end
/-! ### an observer -/
def oa (o A : Addr) : Addr → Prop := fun b => b = o ∨ b = A
abbrev Rec := Str × Int × Int
def obsMeths : List Str := ["see_sold", "see_thrown", "see_stock", "telling_day", "_accept", "possible_lives", "records"]
structure ObsAt (K : PySem.W.Frag) (Z : Ad) (H : Hp) (o : Addr) (bs ds : List Int) (F A : Addr) (bl : List (Addr × Int)) (rl : List (Addr × Rec)) : Prop where
  inst : ∃ dx, H o = some (.ins Z.c_LifeObserver dx [("_fitting", .ref F), ("_accepted", .ref A)])
  cl : Cls K Z.c_LifeObserver
  n1 : NoAttr K Z.c_LifeObserver "_fitting"
  n2 : NoAttr K Z.c_LifeObserver "_accepted"
  hF : H F = some (.lst (bl.map fun x => V.ref x.1))
  hA : H A = some (.lst (rl.map fun x => V.ref x.1))
  bak : ∀ x ∈ bl, ∃ i, BakAt K Z (wn H (oa o A)) x.1 bs ds x.2 i
  rc : ∀ x ∈ rl, H x.1 = some (.tup [.str x.2.1, .int x.2.2.1, .int x.2.2.2])
  gd : Good bs ds
  nb : bl.length ≤ 30
  nr : rl.length ≤ 1000
section
variable {K : PySem.W.Frag} {Z : Ad} {H H' : Hp} {o F A : Addr} {bs ds : List Int} {bl : List (Addr × Int)} {rl : List (Addr × Rec)}
theorem ObsAt.mono (e : Ex H H') (h : ObsAt K Z H o bs ds F A bl rl) : ObsAt K Z H' o bs ds F A bl rl :=
  ⟨let ⟨dx, x⟩ := h.inst; ⟨dx, e _ _ x⟩, h.cl, h.n1, h.n2, e _ _ h.hF, e _ _ h.hA, fun x hx => let ⟨i, y⟩ := h.bak x hx; ⟨i, y.mono (wn_mono e)⟩, fun x hx => e _ _ (h.rc x hx), h.gd, h.nb, h.nr⟩
theorem ObsAt.fF (h : ObsAt K Z H o bs ds F A bl rl) : FlK K H o Z.c_LifeObserver "_fitting" (.ref F) := let ⟨_, x⟩ := h.inst; flk_of x h.cl h.n1 rfl
theorem ObsAt.fA (h : ObsAt K Z H o bs ds F A bl rl) : FlK K H o Z.c_LifeObserver "_accepted" (.ref A) := let ⟨_, x⟩ := h.inst; flk_of x h.cl h.n2 rfl
theorem ObsAt.nf (h : ObsAt K Z H o bs ds F A bl rl) {m : Str} (hm : m ∈ obsMeths) : NoF H o Z.c_LifeObserver m := let ⟨dx, x⟩ := h.inst; ⟨dx, _, x, by
  simp only [obsMeths, List.mem_cons, List.not_mem_nil, or_false] at hm
  rcases hm with rfl | rfl | rfl | rfl | rfl | rfl | rfl <;> rfl⟩
theorem ObsAt.bk (h : ObsAt K Z H o bs ds F A bl rl) {x : Addr × Int} (hx : x ∈ bl) : ∃ i, BakAt K Z H x.1 bs ds x.2 i := let ⟨i, y⟩ := h.bak x hx; ⟨i, y.mono wn_ex⟩
end
end Sw
namespace Sw
open PySem PySem.Spec PyProof.Rows L2 Evl LamX NdefX
local macro_rules | `(tactic| walk_at "ev") => `(tactic| first
  | exact ev_c
  | exact ev_var rfl
  | ((with_reducible show Ev (tCB rMax2 _) _ _ _); exact ev_maxi (by walk_at "ev") (by walk_at "ev"))
  | ((with_reducible show Ev (tCB rMn _) _ _ _); exact ev_min2 (by walk_at "ev") (by walk_at "ev"))
  | ((with_reducible show Ev (tUn _ _) _ _ _); exact ev_un (by walk_at "ev") ru_neg)
  | ((with_reducible show Ev (tFld _ _ _) _ _ _); exact ev_fldK (by walk_at "ev") (by assumption))
  | ((with_reducible show Ev (tOp (rI0 _) _ _) _ _ _); exact ev_op (by walk_at "ev") (by walk_at "ev") rv_I0)
  | ((with_reducible show Ev (tOp rEq _ _) _ _ _); exact ev_op (by walk_at "ev") (by walk_at "ev") (rv_eq rfl))
  | ((with_reducible show Ev (tOp rNe _ _) _ _ _); exact ev_op (by walk_at "ev") (by walk_at "ev") (rv_ne rfl)))

variable {P : Program} {w : World} {K : PySem.W.Frag} {mg : Str → Option Value} {base : Heap} {Z : Ad}
/-! ### an observer is made -/
def lives : List Int := (List.range 30).map fun (k : Nat) => (1 : Int) + (k : Int)
def sp_Oinit (K : PySem.W.Frag) (Z : Ad) : Sp := fun vs H Q _ => ∃ (x dx tb td : Addr) (bs ds : List Int) (N : Addr → Prop), vs = [.ref x, .ref tb, .ref td] ∧ H x = some (.ins Z.c_LifeObserver dx []) ∧
  SqT K (wn H N) tb (bs.map V.int) ∧ SqT K (wn H N) td (ds.map V.int) ∧ Good bs ds ∧ (∀ b, N b → H b ≠ none) ∧ ¬ N x ∧
  ∀ H' F A bl, ObsAt K Z (wn H' N) x bs ds F A bl [] → bl.map (·.2) = lives → H A = none → (∀ b o, H b = some o → b ≠ x → H' b = some o) → Q .non H'
theorem er_observer {σ : L2.St} {H : Hp} {M : Addr → Prop} {t : TA} {tb td : Addr} {bs ds : List Int} {E : XK} (ht : EvA t σ H [.ref tb, .ref td]) (hb : SqT K (wn H M) tb (bs.map V.int)) (hd : SqT K (wn H M) td (ds.map V.int)) (gd : Good bs ds) :
    ∀ H1, Ex H H1 → (∀ b, M b → H1 b ≠ none) → ∀ Q : VK, (∀ p H2 F A bl, H1 p = none → H1 A = none → Ex H1 H2 → ObsAt K Z (wn H2 M) p bs ds F A bl [] → bl.map (·.2) = lives → Q (.ref p) H2) → tMake Z.c_LifeObserver (sp_Oinit K Z) [] E t σ H1 Q := fun H1 e1 kn Q q => ht H1 e1 _ fun H2 e2 x dx hx hdx hne => by
  have eN : Ex H2 (upd (upd H2 dx (.own x)) x (.ins Z.c_LifeObserver dx [])) := fun b o hbo => by
    rw [upd_ne (ne_of_none hbo hx), upd_ne (ne_of_none hbo hdx)]; exact hbo
  have kn2 : ∀ b, M b → H2 b ≠ none := fun b hb z => kn b hb (fresh_back e2 z)
  refine ⟨x, dx, tb, td, bs, ds, M, rfl, upd_same, ex_t (wn_mono ((e1.trans e2).trans eN)) hb, ex_t (wn_mono ((e1.trans e2).trans eN)) hd, gd, fun b hb z => kn2 b hb (fresh_back eN z), fun z => kn2 x z hx, fun H3 F A bl hO hl hA k => ⟨rfl, ?_⟩⟩
  exact q x H3 F A bl (fresh_back e2 hx) (fresh_back (e2.trans eN) hA) (e2.trans fun b o hbo => k b o (eN b o hbo) (ne_of_none hbo hx)) hO hl
theorem ok_LifeObserver___init__ (T : Txt K mg Z) : FnOk P w K mg base CX0 8 Z.f_LifeObserver___init__ Z.d_LifeObserver___init__ p_LifeObserver___init__ (sp_Oinit K Z) := by
  refine T.F_LifeObserver___init__.ok sc_LifeObserver___init__ (fun vs H Q E h => ?_) (fun cdv Ar outer s H vs Q E hr h => ?_)
  · obtain ⟨x, dx, tb, td, bs, ds, N, rfl, _⟩ := h
    rfl
  · obtain ⟨x, dx, tb, td, bs, ds, N, rfl, hx, hb, hd, gd, hN, nNx, k⟩ := h
    have hM : nx x N x := .inl rfl
    have kn0 : ∀ b, nx x N b → H b ≠ none := fun b z q => z.elim (fun e => by rw [e, hx] at q; cases q) fun e => hN b e q
    have hbw : SqT K (wn H (nx x N)) tb (bs.map V.int) := wn_tx hx hb
    have hdw : SqT K (wn H (nx x N)) td (ds.map V.int) := wn_tx hx hd
    obtain ⟨cr, u, cv⟩ := T.cv_Bakery_MAX_LIFE
    refine ⟨_, (pss_cons (ps_fld (pv 0) (pe_lc (own := [("life", 3)]) rfl sc_LifeObserver___init__.nd (pi_range2 (by rfl) T.b_range (pa_cons pe_int (pa_cons (pe_op op_add (ClX.pe_cval (pe_glob (v := .ref Z.c_Bakery) (by rfl) T.g_Bakery rfl) rfl) pe_int) pa_nil))) (blkOk_by (own := [("life", 3)]) (N := n_LifeObserver___init__) (sc := defScope s_LifeObserver___init__) (scope := { kind := PySem.ScopeKind.function, names := [ (PySem.Str.ofString ".0", PySem.NameKind.local), (PySem.Str.ofString "life", PySem.NameKind.local), (PySem.Str.ofString "Bakery", PySem.NameKind.globalImplicit), (PySem.Str.ofString "bakes", PySem.NameKind.free), (PySem.Str.ofString "demands", PySem.NameKind.free)], isGenerator := false, isCoroutine := false, more := [] : PySem.Scope }) (by decide +kernel)) (fun _ _ _ _ _ => (pg_name (i := 3) sc_LifeObserver___init__.nd rfl (Or.inl rfl))) (fun _ _ _ _ _ => pts_nil) (fun _ _ _ _ _ => (pe_make T.mk_Bakery (ok_Bakery___init__ T) (hr.mono (by decide)) (by rfl) T.g_Bakery T.b_Bakery___init__ .nil pass0 (pa_cons (pv 1) (pa_cons (pv 2) (pa_cons (pv 3) pa_nil)))))) rfl)
      (pss_one (ps_fld (pv 0) (pe_lst pa_nil) rfl))), ?_⟩
    refine q_selfR (Pr := fun p G => ∃ bl : List (Addr × Int), G p = some (.lst (bl.map fun x => V.ref x.1)) ∧ bl.map (·.2) = (List.range ((31 : Int) - 1).toNat).map (fun (k : Nat) => (1 : Int) + (k : Int)) ∧ ∀ x ∈ bl, ∃ i, BakAt K Z G x.1 bs ds x.2 i) hM kn0
      (er_lcO (lo := 1) (hi := 31) (Pr := fun l p G => ∃ i, BakAt K Z G p bs ds l i) (ea_cons ev_c (ea_cons (Ev.int_eq (ev_op (ev_cval ev_c cr cv) ev_c rv_I0) (by decide)) ea_nil)) ⟨by decide, by decide, by decide⟩ (fun _ => rfl) (fun _ _ _ _ e ⟨i, h⟩ => ⟨i, h.mono e⟩)
        (fun l H1 M' e1 eM h0 h1 => er_bakery (ea_cons (ev_var rfl) (ea_cons (ev_var rfl) (ea_cons (ev_var rfl) ea_nil))) (ex_t eM hbw) (ex_t eM hdw) gd h0 (by omega)))
      (fun _ _ => ev_var rfl) hx T.cl_LifeObserver T.na_LifeObserver__fitting (by decide) (fun p G1 G2 e ⟨bl, a, b, c⟩ => ⟨bl, e _ _ a, b, fun x hx => let ⟨i, y⟩ := c x hx; ⟨i, y.mono e⟩⟩) fun F S1 hF x1 g1 => ?_
    obtain ⟨bl, hF1, hl, hbk⟩ := hF
    refine s_fldN hM g1.kn (xs := []) (el_lst ea_nil (by show 0 ≤ 100000; decide)) (fun _ _ => ev_var rfl) x1 T.cl_LifeObserver T.na_LifeObserver__accepted (by show 1 < 1000; decide) fun A S2 nA hA x2 g2 => ?_
    have nAM : ¬ nx x N A := fun z => g1.kn A z nA
    have nAN : ¬ N A := fun z => nAM (.inr z)
    have sb : ∀ {S : Hp}, Ex (wn S (nx x N)) (wn S N) := wn_sub fun b z => .inr z
    have ex2 : Ex (wn S1 (nx x N)) (wn (wn S2 N) (oa x A)) := fun b o q => by
      obtain ⟨m, q1⟩ := wn_some q
      have q2 := g2.ex b o q
      rw [wn_ni fun z => z.elim (fun z => m (.inl z)) (fun z => by rw [z, nA] at q1; cases q1)]
      exact sb b o q2
    have lh : bl.length = 30 := by
      have z := congrArg List.length hl
      simpa using z
    refine k S2 F A bl ⟨⟨dx, (wn_ni nNx).trans x2⟩, T.cl_LifeObserver, T.na_LifeObserver__fitting, T.na_LifeObserver__accepted, sb _ _ (g2.ex _ _ hF1), (wn_ni nAN).trans hA, fun y hy => let ⟨i, z⟩ := hbk y hy; ⟨i, z.mono ex2⟩, (fun y hy => by cases hy), gd, by omega, by show 0 ≤ 1000; decide⟩ hl ?_ fun b o hbo hne => g2.al b o (g1.al b o hbo hne) hne
    cases z : H A with
    | none => rfl
    | some o =>
      have ne : A ≠ x := fun e => nAM (.inl e)
      rw [g1.al A o z ne] at nA; cases nA
/-! ### what it tells -/
def sp_Olives (K : PySem.W.Frag) (Z : Ad) : Sp := fun vs H Q _ => ∃ (o : Addr) (bs ds : List Int) (F A : Addr) (bl : List (Addr × Int)) (rl : List (Addr × Rec)), vs = [.ref o] ∧ ObsAt K Z H o bs ds F A bl rl ∧ RetU ((bl.map (·.2)).map V.int) H Q
def sp_Orecs (K : PySem.W.Frag) (Z : Ad) : Sp := fun vs H Q _ => ∃ (o : Addr) (bs ds : List Int) (F A : Addr) (bl : List (Addr × Int)) (rl : List (Addr × Rec)), vs = [.ref o] ∧ ObsAt K Z H o bs ds F A bl rl ∧ ∀ p H', H p = none → Ex H H' → H' p = some (.lst (rl.map fun x => V.ref x.1)) → Q (.ref p) H'
theorem ok_LifeObserver_records (T : Txt K mg Z) : FnOk P w K mg base CX0 1 Z.f_LifeObserver_records Z.d_LifeObserver_records p_LifeObserver_records (sp_Orecs K Z) := by
  refine T.F_LifeObserver_records.ok sc_LifeObserver_records (fun vs H Q E h => ?_) (fun cdv Ar outer s H vs Q E hr h => ?_)
  · obtain ⟨o, bs, ds, F, A, bl, rl, rfl, _⟩ := h
    rfl
  · obtain ⟨o, bs, ds, F, A, bl, rl, rfl, hO, k⟩ := h
    have fA := hO.fA
    refine ⟨_, (pss_one (ps_ret (pe_callTy (r := rListS K) (call_list_of) (by rfl) T.b_list boot_list (pa_cons (pe_fldK K rfl (pv 0) rfl) pa_nil)))), ?_⟩
    exact s_retL (xs := rl.map fun x => V.ref x.1) (el_list (p := A) (by walk_at "ev") (sq_of hO.hA)) fun p H1 np e1 h1 => k p H1 np e1 h1
/-! ### what is seen -/
def agr (g : Int → Int) (num : Int) (bl : List (Addr × Int)) : List (Addr × Int) := bl.filter fun x => decide (g x.2 = num)
/-- the heap behind an observation -/
def SeenAt (K : PySem.W.Frag) (Z : Ad) (H : Hp) (o : Addr) (bs ds : List Int) (A : Addr) (bl : List (Addr × Int)) (rl : List (Addr × Rec)) (N : Addr → Prop) (rc : Rec) (H' : Hp) : Prop :=
  ∃ F' r, ObsAt K Z (wn H' N) o bs ds F' A bl (rl ++ [(r, rc)]) ∧ ∀ b u, H b = some u → b ≠ o → b ≠ A → H' b = some u
def sp_acc (K : PySem.W.Frag) (Z : Ad) : Sp := fun vs H Q _ => ∃ (o : Addr) (kind : Str) (day num : Int) (X : Addr) (g : Int → Int) (bs ds : List Int) (F A : Addr) (bl : List (Addr × Int)) (rl : List (Addr × Rec)) (N : Addr → Prop), vs = [.ref o, .str kind, .int day, .int num, .ref X] ∧
  ObsAt K Z (wn H N) o bs ds F A bl rl ∧ rl.length < 1000 ∧ SqL K H X ((bl.map fun x => g x.2).map V.int) ∧ (∀ b, N b → H b ≠ none) ∧ agr g num bl ≠ [] ∧ ∀ H', SeenAt K Z H o bs ds A (agr g num bl) rl N (kind, day, num) H' → Q (.int ((agr g num bl).length : Nat)) H'
theorem ok_LifeObserver__accept (T : Txt K mg Z) : FnOk P w K mg base CX0 1 Z.f_LifeObserver__accept Z.d_LifeObserver__accept p_LifeObserver__accept (sp_acc K Z) := by
  refine T.F_LifeObserver__accept.ok sc_LifeObserver__accept (fun vs H Q E h => ?_) (fun cdv Ar outer s H vs Q E hr h => ?_)
  · obtain ⟨o, kind, day, num, X, g, bs, ds, F, A, bl, rl, N, rfl, _⟩ := h
    rfl
  · obtain ⟨o, kind, day, num, X, g, bs, ds, F, A, bl, rl, N, rfl, hO, hr1, hX, hN, hne, k⟩ := h
    have hO' := hO.mono wn_ex
    have fF := hO'.fF
    have nb := hO.nb
    obtain ⟨dx, hi⟩ := hO'.inst
    have nNo : ¬ N o := (wn_some hO.inst.choose_spec).1
    have nNA : ¬ N A := (wn_some hO.hA).1
    have neA : o ≠ A := fun z => by have q := hO'.hA; rw [← z, hi] at q; cases q
    refine ⟨_, (pss_cons (ps_setLc (i := 5) (own := [("bakery", 6), ("one", 7)]) rfl sc_LifeObserver__accept.nd rfl rfl (sw_true rfl rfl rfl (by decide +kernel)) (pi_zipK K rfl (by rfl) T.b_zip (pa_cons (pe_fldK K rfl (pv 0) rfl) (pa_cons (pv 4) pa_nil))) (blkOk_by (own := [("bakery", 6), ("one", 7)]) (N := n_LifeObserver__accept) (sc := defScope s_LifeObserver__accept) (scope := { kind := PySem.ScopeKind.function, names := [ (PySem.Str.ofString ".0", PySem.NameKind.local), (PySem.Str.ofString "bakery", PySem.NameKind.local), (PySem.Str.ofString "one", PySem.NameKind.local), (PySem.Str.ofString "number", PySem.NameKind.free)], isGenerator := false, isCoroutine := false, more := [] : PySem.Scope }) (by decide +kernel)) (fun _ _ _ _ _ => (by exact (pg_tupK K (n := 2) rfl rfl (pgs_cons (pg_name (i := 6) sc_LifeObserver__accept.nd rfl (Or.inl rfl)) (pgs_cons (pg_name (i := 7) sc_LifeObserver__accept.nd rfl (Or.inl rfl)) pgs_nil))))) (fun _ _ _ _ _ => (pts_one (pt_cmpR op_eq (pv 7) (pv 3) (nomark _)))) (fun _ _ _ _ _ => (pv 6)))
      (pss_cons (ps_if (pt_cmpR op_eq (pe_callB (r := rLenS K) (call_len_seq) (by rfl) T.b_len boot_len (pa_cons (pv 5) pa_nil)) pe_int (nomark _)) (pss_one ps_no) pss_nil)
      (pss_cons (ps_fld (pv 0) (pv 5) rfl)
      (pss_cons (ps_expr (pe_bm PySem.F.plainAttrs_list PySem.F.slot_list_append PySem.F.type_list_append mt_append (pe_fldK K rfl (pv 0) rfl) (pa_cons (pe_tup (pa_cons (pv 1) (pa_cons (pv 2) (pa_cons (pv 3) pa_nil)))) pa_nil)))
      (pss_one (ps_ret (pe_callB (r := rLenS K) (call_len_seq) (by rfl) T.b_len boot_len (pa_cons (pv 5) pa_nil)))))))), ?_⟩
    refine q_asgL (xs := (agr g num bl).map fun x => V.ref x.1) (el_eq (el_lcZ (K := K) (a := F) (b := X) (xs := bl.map fun x => V.ref x.1) (ys := (bl.map fun x => g x.2).map V.int) (by decide) (ea_cons (by walk_at "ev") (ea_cons (ev_var rfl) ea_nil)) (sq_of hO'.hF) hX (by simp) (by rw [List.length_map]; omega) (fun i => decide (g (bl.getD i (0, 0)).2 = num)) (fun i => V.ref (bl.getD i (0, 0)).1) (fun i x y G e hx hy => ?_) (fun i x y G e hx hy _ => ?_)) (by rw [List.length_map]; exact given_gen (d := ((0, 0) : Addr × Int)) (f := fun x => decide (g x.2 = num)) (v := fun x => V.ref x.1))) fun p H1 np e1 h1 => ?_
    · obtain ⟨rfl, hlt, _⟩ := at_mapG (d := ((0, 0) : Addr × Int)) hx
      rw [List.map_map] at hy
      obtain ⟨rfl, _, _⟩ := at_mapG (d := ((0, 0) : Addr × Int)) hy
      exact et_is (et_test (ev_op (ev_var rfl) (ev_var rfl) (rv_eq rfl))) (by simp)
    · obtain ⟨rfl, hlt, _⟩ := at_mapG (d := ((0, 0) : Addr × Int)) hx
      exact ev_var rfl
    refine q_when (b := false) (et_is (et_test (ev_op (Ev.int_eq (ev_len (ev_var rfl) (sq_of h1)) (by rw [List.length_map])) ev_c (rv_eq rfl))) (by
      have : (agr g num bl).length ≠ 0 := fun z => hne (List.length_eq_zero_iff.mp z)
      simp; exact hne)) (fun hb => nomatch hb) fun _ H2 e2 => ?_
    have e12 := e1.trans e2
    have h2 := e2 _ _ h1
    have nepo : p ≠ o := fun z => by rw [z, hi] at np; cases np
    have nepA : p ≠ A := fun z => by rw [z, hO'.hA] at np; cases np
    have nNp : ¬ N p := fun z => hN p z np
    refine q_fld (v := .ref p) (ev_var rfl) (fun _ _ => ev_var rfl) (e12 _ _ hi) hO.cl hO.n1 (by show 2 < 1000; decide) fun H3 e3 => ?_
    have e13 := e12.trans e3
    have hi3 : upd H3 o (.ins Z.c_LifeObserver dx (putF "_fitting" (.ref p) [("_fitting", .ref F), ("_accepted", .ref A)])) o = some (.ins Z.c_LifeObserver dx [("_fitting", .ref p), ("_accepted", .ref A)]) := upd_same
    have al3 : ∀ b u, H b = some u → b ≠ o → upd H3 o (.ins Z.c_LifeObserver dx (putF "_fitting" (.ref p) [("_fitting", .ref F), ("_accepted", .ref A)])) b = some u := fun b u q ne => (upd_ne ne).trans (e13 _ _ q)
    have h3 : upd H3 o (.ins Z.c_LifeObserver dx (putF "_fitting" (.ref p) [("_fitting", .ref F), ("_accepted", .ref A)])) p = some (.lst ((agr g num bl).map fun x => V.ref x.1)) := (upd_ne nepo).trans (e3 _ _ h2)
    have fr3 : ∀ b, upd H3 o (.ins Z.c_LifeObserver dx (putF "_fitting" (.ref p) [("_fitting", .ref F), ("_accepted", .ref A)])) b = none → H b = none := fun b q => by
      cases z : H b with
      | none => rfl
      | some u =>
        by_cases c : b = o
        · rw [c, hi3] at q; cases q
        · rw [al3 b u z c] at q; cases q
    generalize upd H3 o (.ins Z.c_LifeObserver dx (putF "_fitting" (.ref p) [("_fitting", .ref F), ("_accepted", .ref A)])) = S3 at hi3 al3 h3 fr3 ⊢
    have hA3 := al3 _ _ hO'.hA neA.symm
    have fA3 : FlK K S3 o Z.c_LifeObserver "_accepted" (.ref A) := flk_of hi3 hO.cl hO.n2 rfl
    refine q_appU (ys := [.str kind, .int day, .int num]) hA3 (by walk_at "ev") (eu_tup (ea_cons (ev_var rfl) (ea_cons (ev_var rfl) (ea_cons (ev_var rfl) ea_nil))) (by show 3 ≤ 100000; decide)) (by rw [List.length_map]; omega) fun r H4 nr e4 h4 => ?_
    have nrA : r ≠ A := fun z => by rw [z, hA3] at nr; cases nr
    have nrH : H r = none := fr3 r nr
    have nNr : ¬ N r := fun z => hN r z nrH
    have h5p : upd H4 A (.lst ((rl.map fun x => V.ref x.1) ++ [.ref r])) p = some (.lst ((agr g num bl).map fun x => V.ref x.1)) := (upd_ne nepA).trans (e4 _ _ h3)
    refine s_ret (Ev.int_eq (ev_len (ev_var rfl) (sq_of h5p)) (by rw [List.length_map])) fun H6 e6 => k H6 ⟨p, r, ?_, fun b u q n1 n2 => e6 _ _ ((upd_ne n2).trans (e4 _ _ (al3 b u q n1)))⟩
    have keep : ∀ b u, S3 b = some u → b ≠ A → H6 b = some u := fun b u q n => e6 _ _ ((upd_ne n).trans (e4 _ _ q))
    refine ⟨⟨dx, (wn_ni nNo).trans (keep _ _ hi3 neA)⟩, hO.cl, hO.n1, hO.n2, (wn_ni nNp).trans (keep _ _ h3 nepA), (wn_ni nNA).trans (e6 _ _ (by rw [upd_same, List.map_append]; rfl)), fun x hx => ?_, fun x hx => ?_, hO.gd, ?_, ?_⟩
    · obtain ⟨i, hB⟩ := hO.bak x (List.mem_filter.mp hx).1
      refine ⟨i, hB.mono fun b u q => ?_⟩
      obtain ⟨m, q1⟩ := wn_some q
      obtain ⟨m2, q2⟩ := wn_some q1
      rw [wn_ni m, wn_ni m2]
      exact keep b u (al3 b u q2 fun z => m (.inl z)) fun z => m (.inr z)
    · rcases List.mem_append.mp hx with z | z
      · have q := hO.rc x z
        obtain ⟨m2, q2⟩ := wn_some q
        rw [wn_ni m2]
        exact keep _ _ (al3 _ _ q2 fun z => by rw [z, hi] at q2; cases q2) fun z => by rw [z, hO'.hA] at q2; cases q2
      · rw [List.mem_singleton.mp z]
        exact (wn_ni nNr).trans (e6 _ _ ((upd_ne nrA).trans h4))
    · have := List.length_filter_le (fun x : Addr × Int => decide (g x.2 = num)) bl
      unfold agr; omega
    · rw [List.length_append, List.length_singleton]; omega
end Sw
namespace Sw
open PySem PySem.Spec PyProof.Rows L2 Evl LamX NdefX
local macro_rules | `(tactic| walk_at "ev") => `(tactic| first
  | exact ev_c
  | exact ev_var rfl
  | ((with_reducible show Ev (tCB rMax2 _) _ _ _); exact ev_maxi (by walk_at "ev") (by walk_at "ev"))
  | ((with_reducible show Ev (tCB rMn _) _ _ _); exact ev_min2 (by walk_at "ev") (by walk_at "ev"))
  | ((with_reducible show Ev (tUn _ _) _ _ _); exact ev_un (by walk_at "ev") ru_neg)
  | ((with_reducible show Ev (tFld _ _ _) _ _ _); exact ev_fldK (by walk_at "ev") (by assumption))
  | ((with_reducible show Ev (tOp (rI0 _) _ _) _ _ _); exact ev_op (by walk_at "ev") (by walk_at "ev") rv_I0)
  | ((with_reducible show Ev (tOp rEq _ _) _ _ _); exact ev_op (by walk_at "ev") (by walk_at "ev") (rv_eq rfl))
  | ((with_reducible show Ev (tOp rNe _ _) _ _ _); exact ev_op (by walk_at "ev") (by walk_at "ev") (rv_ne rfl)))

/-! ### the three kinds -/
def gS (bs ds : List Int) (t : Nat) (l : Int) : Int := solS bs ds (keepL bs l) t
def gT (bs ds : List Int) (t : Nat) (l : Int) : Int := thrS bs ds (keepL bs l) t
def gD (bs ds : List Int) (t : Nat) (l : Int) : Int := dayS bs ds (keepL bs l) t
abbrev GK := List Int → List Int → Nat → Int → Int
section
variable {σ : L2.St} {H : Hp} {ta tb tc td : TE} {x y z : V} {xs : List V} {R : List V → Hp → Prop}
theorem ra_4L (ha : Ev ta σ H x) (hb : Ev tb σ H y) (hc : Ev tc σ H z) (hd : EvL td σ H xs) (k : ∀ p H1, Ex H H1 → H1 p = some (.lst xs) → R [x, y, z, .ref p] H1) : (tCons ta (tCons tb (tCons tc (tCons td tNil)))) σ H R :=
  ha H (Ex.refl _) _ fun H1 e1 => hb H1 e1 _ fun H2 e2 => hc H2 (e1.trans e2) _ fun H3 e3 => hd H3 ((e1.trans e2).trans e3) _ fun p H4 _ e4 h4 => k p H4 (((e1.trans e2).trans e3).trans e4) h4
end
variable {P : Program} {w : World} {K : PySem.W.Frag} {mg : Str → Option Value} {base : Heap} {Z : Ad}
def sp_see (K : PySem.W.Frag) (Z : Ad) (kind : Str) (g : GK) : Sp := fun vs H Q _ => ∃ (o : Addr) (day : Nat) (num : Int) (bs ds : List Int) (F A : Addr) (bl : List (Addr × Int)) (rl : List (Addr × Rec)) (N : Addr → Prop), vs = [.ref o, .int (day : Int), .int num] ∧ (day : Int) ≤ 1000000000000000000 ∧
  ObsAt K Z (wn H N) o bs ds F A bl rl ∧ rl.length < 1000 ∧ (∀ b, N b → H b ≠ none) ∧ agr (g bs ds day) num bl ≠ [] ∧ ∀ H', SeenAt K Z H o bs ds A (agr (g bs ds day) num bl) rl N (kind, (day : Int), num) H' → Q (.int ((agr (g bs ds day) num bl).length : Nat)) H'
theorem SeenAt.from {H H1 H' : Hp} {o A : Addr} {bs ds : List Int} {bl : List (Addr × Int)} {rl : List (Addr × Rec)} {N : Addr → Prop} {rc : Rec} (e : Ex H H1) (h : SeenAt K Z H1 o bs ds A bl rl N rc H') : SeenAt K Z H o bs ds A bl rl N rc H' :=
  let ⟨F', r, a, b⟩ := h; ⟨F', r, a, fun x u q => b x u (e x u q)⟩
/-- what is expected of each bakery -/
theorem el_exp {σ : L2.St} {H : Hp} {to : TE} {t : TA} {j : Nat} {vs : List Nat} {o F A : Addr} {bs ds : List Int} {bl : List (Addr × Int)} {rl : List (Addr × Rec)} {m : Str} {sp : Sp} {E : XK} {day : Nat} {g : Int → Int} (ho : Ev to σ H (.ref o)) (hO : ObsAt K Z H o bs ds F A bl rl)
    (hw : ∀ x, wipe ((wipe σ vs).set j (some x)) vs = wipe σ vs) (hm : m ∈ bakMeths) (hsl : ∀ x, ((wipe σ vs).set j (some x))[j]? = some (some x)) (ht : ∀ (x : V) G, EvA t ((wipe σ vs).set j (some x)) G [.int (day : Int)]) (hs : ∀ b l i G, BakAt K Z G b bs ds l i → SpV sp [.ref b, .int (day : Int)] G (.int (g l))) :
    EvL (tLc (iList K (tFld K to "_fitting")) (gName j) tYes (tMeth Z.c_Bakery m sp [] E (tVar j) t) vs) σ H ((bl.map fun x => g x.2).map V.int) := by
  refine el_eq (el_lcL (xs := bl.map fun x => V.ref x.1) (a := F) (fun _ => true) (fun i => V.int (g (bl.getD i (0, 0)).2)) (ev_fldK ho hO.fF) (sq_of hO.hF) (by rw [List.length_map]; have := hO.nb; omega) hw (fun _ _ _ _ _ => et_yes) fun i x G e hx _ => ?_) (by rw [List.length_map, given_map (d := ((0, 0) : Addr × Int)) (v := fun x => V.int (g x.2)), List.map_map]; rfl)
  obtain ⟨rfl, _, hmem⟩ := at_mapG (d := ((0, 0) : Addr × Int)) hx
  obtain ⟨i', hB⟩ := hO.bk hmem
  have hB := hB.mono e
  exact ev_meth (ev_var (hsl _)) (hB.nf _ hm) (ht _ _) (hs _ _ _ _ hB)
theorem ok_LifeObserver_see_sold (T : Txt K mg Z) : FnOk P w K mg base CX0 5 Z.f_LifeObserver_see_sold Z.d_LifeObserver_see_sold p_LifeObserver_see_sold (sp_see K Z "sold" gS) := by
  refine T.F_LifeObserver_see_sold.ok sc_LifeObserver_see_sold (fun vs H Q E h => ?_) (fun cdv Ar outer s H vs Q E hr h => ?_)
  · obtain ⟨o, day, num, bs, ds, F, A, bl, rl, N, rfl, _⟩ := h
    rfl
  · obtain ⟨o, day, num, bs, ds, F, A, bl, rl, N, rfl, hd, hO, hr1, hN, hne, k⟩ := h
    have hO' := hO.mono wn_ex
    refine ⟨_, (pss_one (ps_ret (pe_meth (pv 0) T.cl_LifeObserver T.m_LifeObserver__accept (ok_LifeObserver__accept T) (hr.mono (by decide)) T.b_LifeObserver__accept .nil pass0 (pa_cons pe_str (pa_cons (pv 1) (pa_cons (pv 2) (pa_cons (pe_lc (own := [("bakery", 3)]) rfl sc_LifeObserver_see_sold.nd (pi_listK K rfl (pe_fldK K rfl (pv 0) rfl)) (blkOk_by (own := [("bakery", 3)]) (N := n_LifeObserver_see_sold) (sc := defScope s_LifeObserver_see_sold) (scope := { kind := PySem.ScopeKind.function, names := [ (PySem.Str.ofString ".0", PySem.NameKind.local), (PySem.Str.ofString "bakery", PySem.NameKind.local), (PySem.Str.ofString "day", PySem.NameKind.free)], isGenerator := false, isCoroutine := false, more := [] : PySem.Scope }) (by decide +kernel)) (fun _ _ _ _ _ => (pg_name (i := 3) sc_LifeObserver_see_sold.nd rfl (Or.inl rfl))) (fun _ _ _ _ _ => pts_nil) (fun _ _ _ _ _ => (pe_meth (pv 3) T.cl_Bakery T.m_Bakery_sold (ok_Bakery_sold T) (hr.mono (by decide)) T.b_Bakery_sold .nil pass0 (pa_cons (pv 1) pa_nil)))) pa_nil))))))), ?_⟩
    refine r_meth (ev_var rfl) (hO'.nf (by decide)) fun H1 e1 => ra_4L (ev_c) (ev_var rfl) (ev_var rfl) (el_exp (day := day) (g := gS bs ds day) (ev_var rfl) (hO'.mono e1) (fun _ => rfl) (by decide) (fun _ => rfl) (fun _ _ => ea_cons (ev_var rfl) ea_nil) (fun b l i G hB => spv_Bday (j := 0) hB hd)) fun p H2 e2 h2 => ?_
    exact ⟨o, "sold", day, num, p, gS bs ds day, bs, ds, F, A, bl, rl, N, rfl, hO.mono (wn_mono (e1.trans e2)), hr1, sq_of h2, fun b hb z => hN b hb (fresh_back (e1.trans e2) z), hne, fun H' hs => k H' (hs.from (e1.trans e2))⟩
theorem ok_LifeObserver_see_thrown (T : Txt K mg Z) : FnOk P w K mg base CX0 5 Z.f_LifeObserver_see_thrown Z.d_LifeObserver_see_thrown p_LifeObserver_see_thrown (sp_see K Z "thrown" gT) := by
  refine T.F_LifeObserver_see_thrown.ok sc_LifeObserver_see_thrown (fun vs H Q E h => ?_) (fun cdv Ar outer s H vs Q E hr h => ?_)
  · obtain ⟨o, day, num, bs, ds, F, A, bl, rl, N, rfl, _⟩ := h
    rfl
  · obtain ⟨o, day, num, bs, ds, F, A, bl, rl, N, rfl, hd, hO, hr1, hN, hne, k⟩ := h
    have hO' := hO.mono wn_ex
    refine ⟨_, (pss_one (ps_ret (pe_meth (pv 0) T.cl_LifeObserver T.m_LifeObserver__accept (ok_LifeObserver__accept T) (hr.mono (by decide)) T.b_LifeObserver__accept .nil pass0 (pa_cons pe_str (pa_cons (pv 1) (pa_cons (pv 2) (pa_cons (pe_lc (own := [("bakery", 3)]) rfl sc_LifeObserver_see_thrown.nd (pi_listK K rfl (pe_fldK K rfl (pv 0) rfl)) (blkOk_by (own := [("bakery", 3)]) (N := n_LifeObserver_see_thrown) (sc := defScope s_LifeObserver_see_thrown) (scope := { kind := PySem.ScopeKind.function, names := [ (PySem.Str.ofString ".0", PySem.NameKind.local), (PySem.Str.ofString "bakery", PySem.NameKind.local), (PySem.Str.ofString "day", PySem.NameKind.free)], isGenerator := false, isCoroutine := false, more := [] : PySem.Scope }) (by decide +kernel)) (fun _ _ _ _ _ => (pg_name (i := 3) sc_LifeObserver_see_thrown.nd rfl (Or.inl rfl))) (fun _ _ _ _ _ => pts_nil) (fun _ _ _ _ _ => (pe_meth (pv 3) T.cl_Bakery T.m_Bakery_thrown (ok_Bakery_thrown T) (hr.mono (by decide)) T.b_Bakery_thrown .nil pass0 (pa_cons (pv 1) pa_nil)))) pa_nil))))))), ?_⟩
    refine r_meth (ev_var rfl) (hO'.nf (by decide)) fun H1 e1 => ra_4L (ev_c) (ev_var rfl) (ev_var rfl) (el_exp (day := day) (g := gT bs ds day) (ev_var rfl) (hO'.mono e1) (fun _ => rfl) (by decide) (fun _ => rfl) (fun _ _ => ea_cons (ev_var rfl) ea_nil) (fun b l i G hB => spv_Bday (j := 2) hB hd)) fun p H2 e2 h2 => ?_
    exact ⟨o, "thrown", day, num, p, gT bs ds day, bs, ds, F, A, bl, rl, N, rfl, hO.mono (wn_mono (e1.trans e2)), hr1, sq_of h2, fun b hb z => hN b hb (fresh_back (e1.trans e2) z), hne, fun H' hs => k H' (hs.from (e1.trans e2))⟩
theorem ok_LifeObserver_see_stock (T : Txt K mg Z) : FnOk P w K mg base CX0 5 Z.f_LifeObserver_see_stock Z.d_LifeObserver_see_stock p_LifeObserver_see_stock (sp_see K Z "stock" gD) := by
  refine T.F_LifeObserver_see_stock.ok sc_LifeObserver_see_stock (fun vs H Q E h => ?_) (fun cdv Ar outer s H vs Q E hr h => ?_)
  · obtain ⟨o, day, num, bs, ds, F, A, bl, rl, N, rfl, _⟩ := h
    rfl
  · obtain ⟨o, day, num, bs, ds, F, A, bl, rl, N, rfl, hd, hO, hr1, hN, hne, k⟩ := h
    have hO' := hO.mono wn_ex
    refine ⟨_, (pss_one (ps_ret (pe_meth (pv 0) T.cl_LifeObserver T.m_LifeObserver__accept (ok_LifeObserver__accept T) (hr.mono (by decide)) T.b_LifeObserver__accept .nil pass0 (pa_cons pe_str (pa_cons (pv 1) (pa_cons (pv 2) (pa_cons (pe_lc (own := [("bakery", 3)]) rfl sc_LifeObserver_see_stock.nd (pi_listK K rfl (pe_fldK K rfl (pv 0) rfl)) (blkOk_by (own := [("bakery", 3)]) (N := n_LifeObserver_see_stock) (sc := defScope s_LifeObserver_see_stock) (scope := { kind := PySem.ScopeKind.function, names := [ (PySem.Str.ofString ".0", PySem.NameKind.local), (PySem.Str.ofString "bakery", PySem.NameKind.local), (PySem.Str.ofString "day", PySem.NameKind.free)], isGenerator := false, isCoroutine := false, more := [] : PySem.Scope }) (by decide +kernel)) (fun _ _ _ _ _ => (pg_name (i := 3) sc_LifeObserver_see_stock.nd rfl (Or.inl rfl))) (fun _ _ _ _ _ => pts_nil) (fun _ _ _ _ _ => (pe_meth (pv 3) T.cl_Bakery T.m_Bakery_stock (ok_Bakery_stock T) (hr.mono (by decide)) T.b_Bakery_stock .nil pass0 (pa_cons (pv 1) pa_nil)))) pa_nil))))))), ?_⟩
    refine r_meth (ev_var rfl) (hO'.nf (by decide)) fun H1 e1 => ra_4L (ev_c) (ev_var rfl) (ev_var rfl) (el_exp (day := day) (g := gD bs ds day) (ev_var rfl) (hO'.mono e1) (fun _ => rfl) (by decide) (fun _ => rfl) (fun _ _ => ea_cons (ev_var rfl) ea_nil) (fun b l i G hB => spv_Bstock hB hd)) fun p H2 e2 h2 => ?_
    exact ⟨o, "stock", day, num, p, gD bs ds day, bs, ds, F, A, bl, rl, N, rfl, hO.mono (wn_mono (e1.trans e2)), hr1, sq_of h2, fun b hb z => hN b hb (fresh_back (e1.trans e2) z), hne, fun H' hs => k H' (hs.from (e1.trans e2))⟩
/-! ### the telling day -/
def TellV (bs ds L : List Int) (v : V) : Prop :=
  (∃ d : Nat, v = .int (d : Int) ∧ d < 2 * bs.length ∧ (∃ x ∈ L, ∃ y ∈ L, gS bs ds d x ≠ gS bs ds d y) ∧ ∀ t, t < d → ∀ x ∈ L, ∀ y ∈ L, gS bs ds t x = gS bs ds t y) ∨
  (v = .non ∧ ∀ t, t < 2 * bs.length → ∀ x ∈ L, ∀ y ∈ L, gS bs ds t x = gS bs ds t y)
def sp_tell (K : PySem.W.Frag) (Z : Ad) : Sp := fun vs H Q _ => ∃ (o : Addr) (bs ds : List Int) (F A : Addr) (bl : List (Addr × Int)) (rl : List (Addr × Rec)), vs = [.ref o] ∧ ObsAt K Z H o bs ds F A bl rl ∧ bl ≠ [] ∧ ∀ v, TellV bs ds (bl.map (·.2)) v → RetV v H Q
theorem sol_round {bs ds ks : List Int} (h : CoM bs ds ks) {t : Nat} (ht : bs.length ≤ t) : solS bs ds ks (t + bs.length) = solS bs ds ks t := by
  unfold solS
  rw [misS_round h ht]
  unfold dm
  rw [Nat.add_mod_right]
theorem sol_all {bs ds : List Int} {x y : Int} (gd : Good bs ds) (h : ∀ t, t < 2 * bs.length → gS bs ds t x = gS bs ds t y) : ∀ t, gS bs ds t x = gS bs ds t y := by
  have cx : CoM bs ds (keepL bs x) := ⟨gd, keepL_len, fun _ => keepL_nn gd.b0⟩
  have cy : CoM bs ds (keepL bs y) := ⟨gd, keepL_len, fun _ => keepL_nn gd.b0⟩
  have n0 := gd.n0
  intro t
  induction t using Nat.strongRecOn with
  | ind t ih =>
    by_cases z : t < 2 * bs.length
    · exact h t z
    · have e : t = (t - bs.length) + bs.length := by omega
      unfold gS
      rw [e, sol_round cx (by omega), sol_round cy (by omega)]
      exact ih (t - bs.length) (by omega)
end Sw
namespace Sw
open PySem PySem.Spec PyProof.Rows L2 Evl LamX NdefX
local macro_rules | `(tactic| walk_at "ev") => `(tactic| first
  | exact ev_c
  | exact ev_var rfl
  | ((with_reducible show Ev (tCB rMax2 _) _ _ _); exact ev_maxi (by walk_at "ev") (by walk_at "ev"))
  | ((with_reducible show Ev (tCB rMn _) _ _ _); exact ev_min2 (by walk_at "ev") (by walk_at "ev"))
  | ((with_reducible show Ev (tUn _ _) _ _ _); exact ev_un (by walk_at "ev") ru_neg)
  | ((with_reducible show Ev (tFld _ _ _) _ _ _); exact ev_fldK (by walk_at "ev") (by assumption))
  | ((with_reducible show Ev (tOp (rI0 _) _ _) _ _ _); exact ev_op (by walk_at "ev") (by walk_at "ev") rv_I0)
  | ((with_reducible show Ev (tOp rEq _ _) _ _ _); exact ev_op (by walk_at "ev") (by walk_at "ev") (rv_eq rfl))
  | ((with_reducible show Ev (tOp rNe _ _) _ _ _); exact ev_op (by walk_at "ev") (by walk_at "ev") (rv_ne rfl)))

variable {P : Program} {w : World} {K : PySem.W.Frag} {mg : Str → Option Value} {base : Heap} {Z : Ad}
/-! ### numbers out of range -/
theorem okM_check_number (T : Txt K mg Z) (hP : P = Z.P) : FnOk P w K mg base (L2.CX P w) 1 Z.f_check_number Z.d_check_number p_check_number (spOr sp_num (sp_numX Z)) := fn_or (fn_lift (ok_check_number T)) (okX_check_number T hP)
/-- a call with a number that is out of 0 to hi -/
def sp_outX (Z : Ad) (hi : Int) : Sp := fun vs H _ E => ∃ (x : V) (n : Int), vs = [x, .int n] ∧ (n < 0 ∨ hi < n) ∧ n.natAbs < 10 ^ 30 ∧ ∀ H', Ex H H' → E (.ref Z.c_InvalidNumber) none H'
theorem okX_Bakery_stock (T : Txt K mg Z) (hP : P = Z.P) : FnOk P w K mg base (L2.CX P w) 4 Z.f_Bakery_stock Z.d_Bakery_stock p_Bakery_stock (sp_outX Z 1000000000000000000) := by
  refine T.F_Bakery_stock.okX sc_Bakery_stock (fun vs H Q E h => ?_) (fun cdv Ar outer s H vs Q E hr h => ?_)
  · obtain ⟨x, n, rfl, _⟩ := h
    rfl
  · obtain ⟨x, n, rfl, hn, hz, k⟩ := h
    refine ⟨_, (pss_cons (ps_expr (pe_call (okM_check_number T hP) (hr.mono (by decide)) (by rfl) T.g_check_number T.F_check_number.kp T.b_check_number .nil (passes_call (takes_of rfl rfl rfl rfl) (fun _ _ _ _ h => h)) (pa_cons (pv 1) (pa_cons pe_int (pa_cons (pe_glob (v := .int 1000000000000000000) (by rfl) T.g_LAST_DAY ⟨_, rfl⟩) pa_nil)))))
      (pss_one (ps_ret (pe_meth (pe_fldK K rfl (pv 0) rfl) T.cl_Course T.m_Course_stock_at (ok_Course_stock_at T) (hr.mono (by decide)) T.b_Course_stock_at .nil pass0 (pa_cons (pv 1) pa_nil))))), ?_⟩
    exact q_rz (ea_cons (ev_var rfl) (ea_cons ev_c (ea_cons ev_c ea_nil))) fun H1 e1 Q => .inr ⟨n, 0, 1000000000000000000, rfl, hn, hz, by decide, by decide, fun H2 e2 => k H2 (e1.trans e2)⟩
theorem okM_Bakery_stock (T : Txt K mg Z) (hP : P = Z.P) : FnOk P w K mg base (L2.CX P w) 4 Z.f_Bakery_stock Z.d_Bakery_stock p_Bakery_stock (spOr (sp_Bstock K Z) (sp_outX Z 1000000000000000000)) := fn_or (fn_lift (ok_Bakery_stock T)) (okX_Bakery_stock T hP)
theorem okX_Bakery_sold (T : Txt K mg Z) (hP : P = Z.P) : FnOk P w K mg base (L2.CX P w) 4 Z.f_Bakery_sold Z.d_Bakery_sold p_Bakery_sold (sp_outX Z 1000000000000000000) := by
  refine T.F_Bakery_sold.okX sc_Bakery_sold (fun vs H Q E h => ?_) (fun cdv Ar outer s H vs Q E hr h => ?_)
  · obtain ⟨x, n, rfl, _⟩ := h
    rfl
  · obtain ⟨x, n, rfl, hn, hz, k⟩ := h
    refine ⟨_, (pss_cons (ps_expr (pe_call (okM_check_number T hP) (hr.mono (by decide)) (by rfl) T.g_check_number T.F_check_number.kp T.b_check_number .nil (passes_call (takes_of rfl rfl rfl rfl) (fun _ _ _ _ h => h)) (pa_cons (pv 1) (pa_cons pe_int (pa_cons (pe_glob (v := .int 1000000000000000000) (by rfl) T.g_LAST_DAY ⟨_, rfl⟩) pa_nil)))))
      (pss_one (ps_ret (pe_ix (r := rIxT K) ix_tup (pe_meth (pe_fldK K rfl (pv 0) rfl) T.cl_Course T.m_Course_sales_on (ok_Course_sales_on T) (hr.mono (by decide)) T.b_Course_sales_on .nil pass0 (pa_cons (pv 1) pa_nil)) pe_int (fun _ _ => rfl))))), ?_⟩
    exact q_rz (ea_cons (ev_var rfl) (ea_cons ev_c (ea_cons ev_c ea_nil))) fun H1 e1 Q => .inr ⟨n, 0, 1000000000000000000, rfl, hn, hz, by decide, by decide, fun H2 e2 => k H2 (e1.trans e2)⟩
theorem okM_Bakery_sold (T : Txt K mg Z) (hP : P = Z.P) : FnOk P w K mg base (L2.CX P w) 4 Z.f_Bakery_sold Z.d_Bakery_sold p_Bakery_sold (spOr (sp_Bday K Z 0) (sp_outX Z 1000000000000000000)) := fn_or (fn_lift (ok_Bakery_sold T)) (okX_Bakery_sold T hP)
theorem okX_Bakery_missed (T : Txt K mg Z) (hP : P = Z.P) : FnOk P w K mg base (L2.CX P w) 4 Z.f_Bakery_missed Z.d_Bakery_missed p_Bakery_missed (sp_outX Z 1000000000000000000) := by
  refine T.F_Bakery_missed.okX sc_Bakery_missed (fun vs H Q E h => ?_) (fun cdv Ar outer s H vs Q E hr h => ?_)
  · obtain ⟨x, n, rfl, _⟩ := h
    rfl
  · obtain ⟨x, n, rfl, hn, hz, k⟩ := h
    refine ⟨_, (pss_cons (ps_expr (pe_call (okM_check_number T hP) (hr.mono (by decide)) (by rfl) T.g_check_number T.F_check_number.kp T.b_check_number .nil (passes_call (takes_of rfl rfl rfl rfl) (fun _ _ _ _ h => h)) (pa_cons (pv 1) (pa_cons pe_int (pa_cons (pe_glob (v := .int 1000000000000000000) (by rfl) T.g_LAST_DAY ⟨_, rfl⟩) pa_nil)))))
      (pss_one (ps_ret (pe_ix (r := rIxT K) ix_tup (pe_meth (pe_fldK K rfl (pv 0) rfl) T.cl_Course T.m_Course_sales_on (ok_Course_sales_on T) (hr.mono (by decide)) T.b_Course_sales_on .nil pass0 (pa_cons (pv 1) pa_nil)) pe_int (fun _ _ => rfl))))), ?_⟩
    exact q_rz (ea_cons (ev_var rfl) (ea_cons ev_c (ea_cons ev_c ea_nil))) fun H1 e1 Q => .inr ⟨n, 0, 1000000000000000000, rfl, hn, hz, by decide, by decide, fun H2 e2 => k H2 (e1.trans e2)⟩
theorem okM_Bakery_missed (T : Txt K mg Z) (hP : P = Z.P) : FnOk P w K mg base (L2.CX P w) 4 Z.f_Bakery_missed Z.d_Bakery_missed p_Bakery_missed (spOr (sp_Bday K Z 1) (sp_outX Z 1000000000000000000)) := fn_or (fn_lift (ok_Bakery_missed T)) (okX_Bakery_missed T hP)
theorem okX_Bakery_thrown (T : Txt K mg Z) (hP : P = Z.P) : FnOk P w K mg base (L2.CX P w) 4 Z.f_Bakery_thrown Z.d_Bakery_thrown p_Bakery_thrown (sp_outX Z 1000000000000000000) := by
  refine T.F_Bakery_thrown.okX sc_Bakery_thrown (fun vs H Q E h => ?_) (fun cdv Ar outer s H vs Q E hr h => ?_)
  · obtain ⟨x, n, rfl, _⟩ := h
    rfl
  · obtain ⟨x, n, rfl, hn, hz, k⟩ := h
    refine ⟨_, (pss_cons (ps_expr (pe_call (okM_check_number T hP) (hr.mono (by decide)) (by rfl) T.g_check_number T.F_check_number.kp T.b_check_number .nil (passes_call (takes_of rfl rfl rfl rfl) (fun _ _ _ _ h => h)) (pa_cons (pv 1) (pa_cons pe_int (pa_cons (pe_glob (v := .int 1000000000000000000) (by rfl) T.g_LAST_DAY ⟨_, rfl⟩) pa_nil)))))
      (pss_one (ps_ret (pe_ix (r := rIxT K) ix_tup (pe_meth (pe_fldK K rfl (pv 0) rfl) T.cl_Course T.m_Course_sales_on (ok_Course_sales_on T) (hr.mono (by decide)) T.b_Course_sales_on .nil pass0 (pa_cons (pv 1) pa_nil)) pe_int (fun _ _ => rfl))))), ?_⟩
    exact q_rz (ea_cons (ev_var rfl) (ea_cons ev_c (ea_cons ev_c ea_nil))) fun H1 e1 Q => .inr ⟨n, 0, 1000000000000000000, rfl, hn, hz, by decide, by decide, fun H2 e2 => k H2 (e1.trans e2)⟩
theorem okM_Bakery_thrown (T : Txt K mg Z) (hP : P = Z.P) : FnOk P w K mg base (L2.CX P w) 4 Z.f_Bakery_thrown Z.d_Bakery_thrown p_Bakery_thrown (spOr (sp_Bday K Z 2) (sp_outX Z 1000000000000000000)) := fn_or (fn_lift (ok_Bakery_thrown T)) (okX_Bakery_thrown T hP)
theorem okX_Bakery_totals (T : Txt K mg Z) (hP : P = Z.P) : FnOk P w K mg base (L2.CX P w) 5 Z.f_Bakery_totals Z.d_Bakery_totals p_Bakery_totals (sp_outX Z 1000000000000000000) := by
  refine T.F_Bakery_totals.okX sc_Bakery_totals (fun vs H Q E h => ?_) (fun cdv Ar outer s H vs Q E hr h => ?_)
  · obtain ⟨x, n, rfl, _⟩ := h
    rfl
  · obtain ⟨x, n, rfl, hn, hz, k⟩ := h
    refine ⟨_, (pss_cons (ps_expr (pe_call (okM_check_number T hP) (hr.mono (by decide)) (by rfl) T.g_check_number T.F_check_number.kp T.b_check_number .nil (passes_call (takes_of rfl rfl rfl rfl) (fun _ _ _ _ h => h)) (pa_cons (pv 1) (pa_cons pe_int (pa_cons (pe_glob (v := .int 1000000000000000000) (by rfl) T.g_LAST_DAY ⟨_, rfl⟩) pa_nil)))))
      (pss_one (ps_ret (pe_meth (pe_fldK K rfl (pv 0) rfl) T.cl_Course T.m_Course_sales_before (ok_Course_sales_before T) (hr.mono (by decide)) T.b_Course_sales_before .nil pass0 (pa_cons (pv 1) pa_nil))))), ?_⟩
    exact q_rz (ea_cons (ev_var rfl) (ea_cons ev_c (ea_cons ev_c ea_nil))) fun H1 e1 Q => .inr ⟨n, 0, 1000000000000000000, rfl, hn, hz, by decide, by decide, fun H2 e2 => k H2 (e1.trans e2)⟩
theorem okM_Bakery_totals (T : Txt K mg Z) (hP : P = Z.P) : FnOk P w K mg base (L2.CX P w) 5 Z.f_Bakery_totals Z.d_Bakery_totals p_Bakery_totals (spOr (sp_Btot K Z) (sp_outX Z 1000000000000000000)) := fn_or (fn_lift (ok_Bakery_totals T)) (okX_Bakery_totals T hP)
theorem okX_Bakery_shelf (T : Txt K mg Z) (hP : P = Z.P) : FnOk P w K mg base (L2.CX P w) 5 Z.f_Bakery_shelf Z.d_Bakery_shelf p_Bakery_shelf (sp_outX Z 1000000000000000000) := by
  refine T.F_Bakery_shelf.okX sc_Bakery_shelf (fun vs H Q E h => ?_) (fun cdv Ar outer s H vs Q E hr h => ?_)
  · obtain ⟨x, n, rfl, _⟩ := h
    rfl
  · obtain ⟨x, n, rfl, hn, hz, k⟩ := h
    refine ⟨_, (pss_cons (ps_expr (pe_call (okM_check_number T hP) (hr.mono (by decide)) (by rfl) T.g_check_number T.F_check_number.kp T.b_check_number .nil (passes_call (takes_of rfl rfl rfl rfl) (fun _ _ _ _ h => h)) (pa_cons (pv 1) (pa_cons pe_int (pa_cons (pe_glob (v := .int 1000000000000000000) (by rfl) T.g_LAST_DAY ⟨_, rfl⟩) pa_nil)))))
      (pss_one (ps_ret (pe_meth (pe_fldK K rfl (pv 0) rfl) T.cl_Course T.m_Course_loaves_at (ok_Course_loaves_at T) (hr.mono (by decide)) T.b_Course_loaves_at .nil pass0 (pa_cons (pv 1) pa_nil))))), ?_⟩
    exact q_rz (ea_cons (ev_var rfl) (ea_cons ev_c (ea_cons ev_c ea_nil))) fun H1 e1 Q => .inr ⟨n, 0, 1000000000000000000, rfl, hn, hz, by decide, by decide, fun H2 e2 => k H2 (e1.trans e2)⟩
theorem okM_Bakery_shelf (T : Txt K mg Z) (hP : P = Z.P) : FnOk P w K mg base (L2.CX P w) 5 Z.f_Bakery_shelf Z.d_Bakery_shelf p_Bakery_shelf (spOr (sp_Bshelf K Z) (sp_outX Z 1000000000000000000)) := fn_or (fn_lift (ok_Bakery_shelf T)) (okX_Bakery_shelf T hP)
theorem okX_next_missed (T : Txt K mg Z) (hP : P = Z.P) : FnOk P w K mg base (L2.CX P w) 5 Z.f_next_missed Z.d_next_missed p_next_missed (sp_outX Z 1000000000000000000) := by
  refine T.F_next_missed.okX sc_next_missed (fun vs H Q E h => ?_) (fun cdv Ar outer s H vs Q E hr h => ?_)
  · obtain ⟨x, n, rfl, _⟩ := h
    rfl
  · obtain ⟨x, n, rfl, hn, hz, k⟩ := h
    refine ⟨_, (pss_cons (ps_expr (pe_call (okM_check_number T hP) (hr.mono (by decide)) (by rfl) T.g_check_number T.F_check_number.kp T.b_check_number .nil (passes_call (takes_of rfl rfl rfl rfl) (fun _ _ _ _ h => h)) (pa_cons (pv 1) (pa_cons pe_int (pa_cons (pe_glob (v := .int 1000000000000000000) (by rfl) T.g_LAST_DAY ⟨_, rfl⟩) pa_nil)))))
      (pss_one (ps_ret (pe_call (ok_find_loss T) (hr.mono (by decide)) (by rfl) T.g_find_loss T.F_find_loss.kp T.b_find_loss .nil pass0 (pa_cons (pv 0) (pa_cons (pe_glob (v := .int 1) (by rfl) T.g_MISSED ⟨_, rfl⟩) (pa_cons (pv 1) (pa_cons (pe_callB (r := rLenS K) (call_len_seq) (by rfl) T.b_len boot_len (pa_cons (pe_prop (pv 0) T.cl_Bakery T.pp_Bakery_bakes (ok_Bakery_bakes T) (hr.mono (by decide)) T.b_Bakery_bakes .nil pass0 rfl) pa_nil)) pa_nil)))))))), ?_⟩
    exact q_rz (ea_cons (ev_var rfl) (ea_cons ev_c (ea_cons ev_c ea_nil))) fun H1 e1 Q => .inr ⟨n, 0, 1000000000000000000, rfl, hn, hz, by decide, by decide, fun H2 e2 => k H2 (e1.trans e2)⟩
theorem okM_next_missed (T : Txt K mg Z) (hP : P = Z.P) : FnOk P w K mg base (L2.CX P w) 5 Z.f_next_missed Z.d_next_missed p_next_missed (spOr (sp_loss K Z 1) (sp_outX Z 1000000000000000000)) := fn_or (fn_lift (ok_next_missed T)) (okX_next_missed T hP)
theorem okX_next_thrown (T : Txt K mg Z) (hP : P = Z.P) : FnOk P w K mg base (L2.CX P w) 5 Z.f_next_thrown Z.d_next_thrown p_next_thrown (sp_outX Z 1000000000000000000) := by
  refine T.F_next_thrown.okX sc_next_thrown (fun vs H Q E h => ?_) (fun cdv Ar outer s H vs Q E hr h => ?_)
  · obtain ⟨x, n, rfl, _⟩ := h
    rfl
  · obtain ⟨x, n, rfl, hn, hz, k⟩ := h
    refine ⟨_, (pss_cons (ps_expr (pe_call (okM_check_number T hP) (hr.mono (by decide)) (by rfl) T.g_check_number T.F_check_number.kp T.b_check_number .nil (passes_call (takes_of rfl rfl rfl rfl) (fun _ _ _ _ h => h)) (pa_cons (pv 1) (pa_cons pe_int (pa_cons (pe_glob (v := .int 1000000000000000000) (by rfl) T.g_LAST_DAY ⟨_, rfl⟩) pa_nil)))))
      (pss_cons (ps_set (i := 2) sc_next_thrown.nd rfl (Or.inl rfl) (pe_callB (r := rMax2) (call_max2 rfl) (by rfl) T.b_max boot_max (pa_cons (pv 1) (pa_cons (pe_op op_sub (pe_prop (pv 0) T.cl_Bakery T.pp_Bakery_settled_day (ok_Bakery_settled_day T) (hr.mono (by decide)) T.b_Bakery_settled_day .nil pass0 rfl) pe_int) pa_nil))))
      (pss_one (ps_ret (pe_call (ok_find_loss T) (hr.mono (by decide)) (by rfl) T.g_find_loss T.F_find_loss.kp T.b_find_loss .nil pass0 (pa_cons (pv 0) (pa_cons (pe_glob (v := .int 2) (by rfl) T.g_THROWN ⟨_, rfl⟩) (pa_cons (pv 2) (pa_cons (pe_op op_add pe_int (pe_callB (r := rLenS K) (call_len_seq) (by rfl) T.b_len boot_len (pa_cons (pe_prop (pv 0) T.cl_Bakery T.pp_Bakery_bakes (ok_Bakery_bakes T) (hr.mono (by decide)) T.b_Bakery_bakes .nil pass0 rfl) pa_nil))) pa_nil))))))))), ?_⟩
    exact q_rz (ea_cons (ev_var rfl) (ea_cons ev_c (ea_cons ev_c ea_nil))) fun H1 e1 Q => .inr ⟨n, 0, 1000000000000000000, rfl, hn, hz, by decide, by decide, fun H2 e2 => k H2 (e1.trans e2)⟩
theorem okM_next_thrown (T : Txt K mg Z) (hP : P = Z.P) : FnOk P w K mg base (L2.CX P w) 5 Z.f_next_thrown Z.d_next_thrown p_next_thrown (spOr (sp_loss K Z 2) (sp_outX Z 1000000000000000000)) := fn_or (fn_lift (ok_next_thrown T)) (okX_next_thrown T hP)
theorem okX_least_life (T : Txt K mg Z) (hP : P = Z.P) : FnOk P w K mg base (L2.CX P w) 9 Z.f_least_life Z.d_least_life p_least_life (sp_outX Z 1000000000000) := by
  refine T.F_least_life.okX sc_least_life (fun vs H Q E h => ?_) (fun cdv Ar outer s H vs Q E hr h => ?_)
  · obtain ⟨x, n, rfl, _⟩ := h
    rfl
  · obtain ⟨x, n, rfl, hn, hz, k⟩ := h
    refine ⟨_, (pss_cons (ps_expr (pe_call (okM_check_number T hP) (hr.mono (by decide)) (by rfl) T.g_check_number T.F_check_number.kp T.b_check_number .nil (passes_call (takes_of rfl rfl rfl rfl) (fun _ _ _ _ h => h)) (pa_cons (pv 1) (pa_cons pe_int (pa_cons (pe_glob (v := .int 1000000000000) (by rfl) T.g_MOST_MISSED ⟨_, rfl⟩) pa_nil)))))
      (pss_cons (ps_for (passes_of rfl) rfl (pi_range2 (by rfl) T.b_range (pa_cons pe_int (pa_cons (pe_op op_add (pe_con (pv 0) rfl) pe_int) pa_nil))) (pg_name (i := 2) sc_least_life.nd rfl (Or.inl rfl)) (pss_one (ps_if (pt_cmpR op_le (pe_ix (r := rIxT K) ix_tup (pe_prop (pe_meth (pv 0) T.cl_Bakery T.m_Bakery_with_life (ok_Bakery_with_life T) (hr.mono (by decide)) T.b_Bakery_with_life .nil pass0 (pa_cons (pv 2) pa_nil)) T.cl_Bakery T.pp_Bakery_long_run (ok_Bakery_long_run T) (hr.mono (by decide)) T.b_Bakery_long_run .nil pass0 rfl) (pe_glob (v := .int 1) (by rfl) T.g_MISSED ⟨_, rfl⟩) (fun _ _ => rfl)) (pv 1) (nomark _)) (pss_one (ps_ret (pv 2))) pss_nil)))
      (pss_one (ps_ret pe_non)))), ?_⟩
    exact q_rz (ea_cons (ev_var rfl) (ea_cons ev_c (ea_cons ev_c ea_nil))) fun H1 e1 Q => .inr ⟨n, 0, 1000000000000, rfl, hn, hz, by decide, by decide, fun H2 e2 => k H2 (e1.trans e2)⟩
theorem okM_least_life (T : Txt K mg Z) (hP : P = Z.P) : FnOk P w K mg base (L2.CX P w) 9 Z.f_least_life Z.d_least_life p_least_life (spOr (sp_choice K Z fun bs ds _ missed v => LifeV bs ds missed v) (sp_outX Z 1000000000000)) := fn_or (fn_lift (ok_least_life T)) (okX_least_life T hP)
theorem okX_least_baking (T : Txt K mg Z) (hP : P = Z.P) : FnOk P w K mg base (L2.CX P w) 9 Z.f_least_baking Z.d_least_baking p_least_baking (sp_outX Z 1000000000000) := by
  refine T.F_least_baking.okX sc_least_baking (fun vs H Q E h => ?_) (fun cdv Ar outer s H vs Q E hr h => ?_)
  · obtain ⟨x, n, rfl, _⟩ := h
    rfl
  · obtain ⟨x, n, rfl, hn, hz, k⟩ := h
    refine ⟨_, (pss_cons (ps_expr (pe_call (okM_check_number T hP) (hr.mono (by decide)) (by rfl) T.g_check_number T.F_check_number.kp T.b_check_number .nil (passes_call (takes_of rfl rfl rfl rfl) (fun _ _ _ _ h => h)) (pa_cons (pv 1) (pa_cons pe_int (pa_cons (pe_glob (v := .int 1000000000000) (by rfl) T.g_MOST_MISSED ⟨_, rfl⟩) pa_nil)))))
      (pss_cons (ps_set (i := 2) sc_least_baking.nd rfl (Or.inl rfl) pe_int)
      (pss_cons (ps_set (i := 3) sc_least_baking.nd rfl (Or.inl rfl) (pe_op op_sub (pe_glob (v := .int 1000000000) (by rfl) T.g_MOST_LOAVES ⟨_, rfl⟩) (pe_callB (r := rMaxT K) (cr_maxT rfl) (by rfl) T.b_max boot_max (pa_cons (pe_prop (pv 0) T.cl_Bakery T.pp_Bakery_bakes (ok_Bakery_bakes T) (hr.mono (by decide)) T.b_Bakery_bakes .nil pass0 rfl) pa_nil))))
      (pss_cons (ps_if (pt_cmpR op_gt (pe_ix (r := rIxT K) ix_tup (pe_prop (pe_meth (pv 0) T.cl_Bakery T.m_Bakery_baking_more (ok_Bakery_baking_more T) (hr.mono (by decide)) T.b_Bakery_baking_more .nil pass0 (pa_cons (pv 3) pa_nil)) T.cl_Bakery T.pp_Bakery_long_run (ok_Bakery_long_run T) (hr.mono (by decide)) T.b_Bakery_long_run .nil pass0 rfl) (pe_glob (v := .int 1) (by rfl) T.g_MISSED ⟨_, rfl⟩) (fun _ _ => rfl)) (pv 1) (nomark _)) (pss_one (ps_ret pe_non)) pss_nil)
      (pss_cons (ps_while (passes_of rfl) (pt_cmpR op_lt (pv 2) (pv 3) (nomark _)) (pss_cons (ps_set (i := 4) sc_least_baking.nd rfl (Or.inl rfl) (pe_op op_fdivW (pe_op op_add (pv 2) (pv 3)) pe_int))
      (pss_one (ps_if (pt_cmpR op_le (pe_ix (r := rIxT K) ix_tup (pe_prop (pe_meth (pv 0) T.cl_Bakery T.m_Bakery_baking_more (ok_Bakery_baking_more T) (hr.mono (by decide)) T.b_Bakery_baking_more .nil pass0 (pa_cons (pv 4) pa_nil)) T.cl_Bakery T.pp_Bakery_long_run (ok_Bakery_long_run T) (hr.mono (by decide)) T.b_Bakery_long_run .nil pass0 rfl) (pe_glob (v := .int 1) (by rfl) T.g_MISSED ⟨_, rfl⟩) (fun _ _ => rfl)) (pv 1) (nomark _)) (pss_one (ps_set (i := 3) sc_least_baking.nd rfl (Or.inl rfl) (pv 4))) (pss_one (ps_set (i := 2) sc_least_baking.nd rfl (Or.inl rfl) (pe_op op_add (pv 4) pe_int)))))))
      (pss_one (ps_ret (pv 2)))))))), ?_⟩
    exact q_rz (ea_cons (ev_var rfl) (ea_cons ev_c (ea_cons ev_c ea_nil))) fun H1 e1 Q => .inr ⟨n, 0, 1000000000000, rfl, hn, hz, by decide, by decide, fun H2 e2 => k H2 (e1.trans e2)⟩
theorem okM_least_baking (T : Txt K mg Z) (hP : P = Z.P) : FnOk P w K mg base (L2.CX P w) 9 Z.f_least_baking Z.d_least_baking p_least_baking (spOr (sp_choice K Z BakeV) (sp_outX Z 1000000000000)) := fn_or (fn_lift (ok_least_baking T)) (okX_least_baking T hP)
theorem okX_newest_first (T : Txt K mg Z) (hP : P = Z.P) : FnOk P w K mg base (L2.CX P w) 3 Z.f_newest_first Z.d_newest_first p_newest_first (sp_outX Z 1000) := by
  refine T.F_newest_first.okX sc_newest_first (fun vs H Q E h => ?_) (fun cdv Ar outer s H vs Q E hr h => ?_)
  · obtain ⟨x, n, rfl, _⟩ := h
    rfl
  · obtain ⟨x, n, rfl, hn, hz, k⟩ := h
    refine ⟨_, (pss_cons (ps_expr (pe_call (okM_check_number T hP) (hr.mono (by decide)) (by rfl) T.g_check_number T.F_check_number.kp T.b_check_number .nil (passes_call (takes_of rfl rfl rfl rfl) (fun _ _ _ _ h => h)) (pa_cons (pv 1) (pa_cons pe_int (pa_cons (pe_glob (v := .int 1000) (by rfl) T.g_MOST_NEWEST_DAYS ⟨_, rfl⟩) pa_nil)))))
      (pss_cons (ps_asg3 pe_int (pg_name (i := 2) sc_newest_first.nd rfl (Or.inl rfl)) (pg_name (i := 3) sc_newest_first.nd rfl (Or.inl rfl)) (pg_name (i := 4) sc_newest_first.nd rfl (Or.inl rfl)))
      (pss_cons (ps_set (i := 5) sc_newest_first.nd rfl (Or.inl rfl) (pe_op op_rep (pe_lst (pa_cons pe_int pa_nil)) (pe_prop (pv 0) T.cl_Bakery T.pp_Bakery_life (ok_Bakery_life T) (hr.mono (by decide)) T.b_Bakery_life .nil pass0 rfl)))
      (pss_cons (ps_for (passes_of rfl) rfl (pi_range1 (by rfl) T.b_range (pa_cons (pv 1) pa_nil)) (pg_name (i := 6) sc_newest_first.nd rfl (Or.inl rfl)) (pss_cons (ps_set (i := 7) sc_newest_first.nd rfl (Or.inl rfl) (pe_op op_mod (pv 6) (pe_callB (r := rLenS K) (call_len_seq) (by rfl) T.b_len boot_len (pa_cons (pe_prop (pv 0) T.cl_Bakery T.pp_Bakery_bakes (ok_Bakery_bakes T) (hr.mono (by decide)) T.b_Bakery_bakes .nil pass0 rfl) pa_nil))))
      (pss_cons (ps_set (i := 8) sc_newest_first.nd rfl (Or.inl rfl) (pe_op op_cat (pe_lst (pa_cons (pe_ix (r := rIxT K) ix_tup (pe_prop (pv 0) T.cl_Bakery T.pp_Bakery_bakes (ok_Bakery_bakes T) (hr.mono (by decide)) T.b_Bakery_bakes .nil pass0 rfl) (pv 7) (fun _ _ => rfl)) pa_nil)) (pe_slice (r := rSlL K) sl_list (pv 5) po_none (po_some (pe_un un_neg pe_int)))))
      (pss_cons (ps_set (i := 5) sc_newest_first.nd rfl (Or.inl rfl) (pe_call (ok_sell_in_order T) (hr.mono (by decide)) (by rfl) T.g_sell_in_order T.F_sell_in_order.kp T.b_sell_in_order .nil pass0 (pa_cons (pv 8) (pa_cons (pe_ix (r := rIxT K) ix_tup (pe_prop (pv 0) T.cl_Bakery T.pp_Bakery_demands (ok_Bakery_demands T) (hr.mono (by decide)) T.b_Bakery_demands .nil pass0 rfl) (pv 7) (fun _ _ => rfl)) pa_nil))))
      (pss_cons (ps_set (i := 9) sc_newest_first.nd rfl (Or.inl rfl) (pe_op op_sub (pe_callB (r := rSum K) (cr_sum rfl) (by rfl) T.b_sum boot_sum (pa_cons (pv 8) pa_nil)) (pe_callB (r := rSum K) (cr_sum rfl) (by rfl) T.b_sum boot_sum (pa_cons (pv 5) pa_nil))))
      (pss_cons (ps_aug (i := 2) sc_newest_first.nd rfl (Or.inl rfl) (pv 9) in_add)
      (pss_cons (ps_aug (i := 3) sc_newest_first.nd rfl (Or.inl rfl) (pe_op op_sub (pe_ix (r := rIxT K) ix_tup (pe_prop (pv 0) T.cl_Bakery T.pp_Bakery_demands (ok_Bakery_demands T) (hr.mono (by decide)) T.b_Bakery_demands .nil pass0 rfl) (pv 7) (fun _ _ => rfl)) (pv 9)) in_add)
      (pss_one (ps_aug (i := 4) sc_newest_first.nd rfl (Or.inl rfl) (pe_ix (r := rIxL K) ix_list (pv 5) (pe_un un_neg pe_int) (fun _ _ => rfl)) in_add)))))))))
      (pss_one (ps_ret (pe_tup (pa_cons (pv 2) (pa_cons (pv 3) (pa_cons (pv 4) pa_nil)))))))))), ?_⟩
    exact q_rz (ea_cons (ev_var rfl) (ea_cons ev_c (ea_cons ev_c ea_nil))) fun H1 e1 Q => .inr ⟨n, 0, 1000, rfl, hn, hz, by decide, by decide, fun H2 e2 => k H2 (e1.trans e2)⟩
theorem okM_newest_first (T : Txt K mg Z) (hP : P = Z.P) : FnOk P w K mg base (L2.CX P w) 3 Z.f_newest_first Z.d_newest_first p_newest_first (spOr (sp_newest K Z) (sp_outX Z 1000)) := fn_or (fn_lift (ok_newest_first T)) (okX_newest_first T hP)
end Sw
namespace Sw
open PySem PySem.Spec PyProof.Rows L2 Evl LamX NdefX
local macro_rules | `(tactic| walk_at "ev") => `(tactic| first
  | exact ev_c
  | exact ev_var rfl
  | ((with_reducible show Ev (tCB rMax2 _) _ _ _); exact ev_maxi (by walk_at "ev") (by walk_at "ev"))
  | ((with_reducible show Ev (tCB rMn _) _ _ _); exact ev_min2 (by walk_at "ev") (by walk_at "ev"))
  | ((with_reducible show Ev (tUn _ _) _ _ _); exact ev_un (by walk_at "ev") ru_neg)
  | ((with_reducible show Ev (tFld _ _ _) _ _ _); exact ev_fldK (by walk_at "ev") (by assumption))
  | ((with_reducible show Ev (tOp (rI0 _) _ _) _ _ _); exact ev_op (by walk_at "ev") (by walk_at "ev") rv_I0)
  | ((with_reducible show Ev (tOp rEq _ _) _ _ _); exact ev_op (by walk_at "ev") (by walk_at "ev") (rv_eq rfl))
  | ((with_reducible show Ev (tOp rNe _ _) _ _ _); exact ev_op (by walk_at "ev") (by walk_at "ev") (rv_ne rfl)))

/-! ### observers where they raise -/
section
variable {K : PySem.W.Frag} {σ : L2.St} {H : Hp} {Q : VK} {te : TE} {tl : TE} {jj : Nat} {vs : List Nat}
/-- the first turn raises: over a list -/
theorem lc_rzL {a : Addr} {xs : List V} (hl : Ev tl σ H (.ref a)) (hx : SqL K H a xs) (h0 : 0 < xs.length) (hw : ∀ x, wipe ((wipe σ vs).set jj (some x)) vs = wipe σ vs)
    (he : ∀ x H1, xs[0]? = some x → Ex H H1 → ∀ Q, te ((wipe σ vs).set jj (some x)) H1 Q) : tLc (iList K tl) (gName jj) tYes te vs σ H Q :=
  hl H (Ex.refl _) _ fun H1 e1 => ⟨a, rfl, ⟨_, ex_l e1 hx⟩, fun Dl hD => by
    have eD : Ex H1 (upd H1 Dl (.lst [])) := Ex.new hD
    refine lc_list (K := K) (a := a) (xs := xs) (fun i H' => i = 0 ∧ Ex H H') ⟨rfl, e1.trans eD⟩ (fun i H' _ p => ex_l p.2 hx) (fun i x H' hi p => ?_) (fun H' p => absurd p.1 (by omega))
    obtain ⟨rfl, e⟩ := p
    exact ⟨hw _, he x H' hi e _⟩⟩
end
/-- over a range -/
theorem lc_rzR {σ : L2.St} {H : Hp} {Q : VK} {te : TE} {jj : Nat} {vs : List Nat} {t : TA} {lo hi : Int} (h : EvA t σ H [.int lo, .int hi]) (hn : -10000 ≤ lo ∧ lo < hi ∧ hi ≤ 10000) (hw : ∀ x, wipe ((wipe σ vs).set jj (some x)) vs = wipe σ vs)
    (he : ∀ H1, Ex H H1 → ∀ Q, te ((wipe σ vs).set jj (some (.int lo))) H1 Q) : tLc (iRng2 t) (gName jj) tYes te vs σ H Q :=
  h H (Ex.refl _) _ fun H1 e1 => ⟨lo, hi, rfl, ⟨by omega, by omega, by omega, by omega⟩, fun Dl hD => by
    refine lc_range (lo := lo) (n := (hi - lo).toNat) (fun i H' => i = 0 ∧ Ex H H') ⟨rfl, e1.trans (Ex.new hD)⟩ (fun i H' hi' p => ?_) (fun H' p => absurd p.1 (by omega))
    obtain ⟨rfl, e⟩ := p
    refine ⟨hw _, ?_⟩
    show te ((wipe σ vs).set jj (some (.int (lo + ((0 : Nat) : Int))))) H' _
    rw [show lo + ((0 : Nat) : Int) = lo by simp]
    exact he H' e _⟩
theorem q_fldZ {K : PySem.W.Frag} {σ : L2.St} {H : Hp} {ta te : TE} {f : Str} {D : Ends} {tz : TS} (h : ∀ Q, te σ H Q) : tSeq (sFld K ta te f) tz D σ H := h _
theorem lc_rzB {K : PySem.W.Frag} {Z : Ad} {σ : L2.St} {H : Hp} {Q : VK} {to : TE} {t : TA} {j : Nat} {vs : List Nat} {o F A : Addr} {bs ds : List Int} {bl : List (Addr × Int)} {rl : List (Addr × Rec)} {m : Str} {sp : Sp} {E : XK} {day : Int} (ho : Ev to σ H (.ref o)) (hO : ObsAt K Z H o bs ds F A bl rl) (hne : bl ≠ [])
    (hw : ∀ x, wipe ((wipe σ vs).set j (some x)) vs = wipe σ vs) (hm : m ∈ bakMeths) (hsl : ∀ x, ((wipe σ vs).set j (some x))[j]? = some (some x)) (ht : ∀ (x : V) G, EvA t ((wipe σ vs).set j (some x)) G [.int day]) (hs : ∀ b H1 Q, Ex H H1 → sp [.ref b, .int day] H1 Q E) :
    tLc (iList K (tFld K to "_fitting")) (gName j) tYes (tMeth Z.c_Bakery m sp [] E (tVar j) t) vs σ H Q := by
  refine lc_rzL (xs := bl.map fun x => V.ref x.1) (a := F) (ev_fldK ho hO.fF) (sq_of hO.hF) (by rw [List.length_map]; exact List.length_pos_iff.mpr hne) hw fun x H1 hx e1 Q => ?_
  obtain ⟨rfl, _, hmem⟩ := at_mapG (d := ((0, 0) : Addr × Int)) hx
  obtain ⟨i', hB⟩ := hO.bk hmem
  exact r_meth (ev_var (hsl _)) ((hB.mono e1).nf _ hm) fun H2 e2 => ht _ _ H2 (Ex.refl _) _ fun H3 e3 => hs _ _ _ ((e1.trans e2).trans e3)
variable {P : Program} {w : World} {K : PySem.W.Frag} {mg : Str → Option Value} {base : Heap} {Z : Ad}
def sp_seeF (K : PySem.W.Frag) (Z : Ad) : Sp := fun vs H _ E => ∃ (o : Addr) (day num : Int) (bs ds : List Int) (F A : Addr) (bl : List (Addr × Int)) (rl : List (Addr × Rec)), vs = [.ref o, .int day, .int num] ∧ (day < 0 ∨ 1000000000000000000 < day) ∧ day.natAbs < 10 ^ 30 ∧
  ObsAt K Z H o bs ds F A bl rl ∧ bl ≠ [] ∧ ∀ H', Ex H H' → E (.ref Z.c_InvalidNumber) none H'
theorem okX_LifeObserver_see_sold (T : Txt K mg Z) (hP : P = Z.P) : FnOk P w K mg base (L2.CX P w) 5 Z.f_LifeObserver_see_sold Z.d_LifeObserver_see_sold p_LifeObserver_see_sold (sp_seeF K Z) := by
  refine T.F_LifeObserver_see_sold.okX sc_LifeObserver_see_sold (fun vs H Q E h => ?_) (fun cdv Ar outer s H vs Q E hr h => ?_)
  · obtain ⟨o, day, num, bs, ds, F, A, bl, rl, rfl, _⟩ := h
    rfl
  · obtain ⟨o, day, num, bs, ds, F, A, bl, rl, rfl, hd, hz, hO, hne, k⟩ := h
    refine ⟨_, (pss_one (ps_ret (pe_meth (pv 0) T.cl_LifeObserver T.m_LifeObserver__accept (ok_LifeObserver__accept T) (hr.mono (by decide)) T.b_LifeObserver__accept .nil pass0 (pa_cons pe_str (pa_cons (pv 1) (pa_cons (pv 2) (pa_cons (pe_lcR (own := [("bakery", 3)]) (takes_of rfl rfl rfl rfl) rfl rfl rfl sc_LifeObserver_see_sold.nd (pi_listK K rfl (pe_fldK K rfl (pv 0) rfl)) (blkOk_by (own := [("bakery", 3)]) (N := n_LifeObserver_see_sold) (sc := defScope s_LifeObserver_see_sold) (scope := { kind := PySem.ScopeKind.function, names := [ (PySem.Str.ofString ".0", PySem.NameKind.local), (PySem.Str.ofString "bakery", PySem.NameKind.local), (PySem.Str.ofString "day", PySem.NameKind.free)], isGenerator := false, isCoroutine := false, more := [] : PySem.Scope }) (by decide +kernel)) (fun _ _ _ _ _ => (pg_name (i := 3) sc_LifeObserver_see_sold.nd rfl (Or.inl rfl))) (fun _ _ _ _ _ _ _ ps => (pe_meth (pv 3) T.cl_Bakery T.m_Bakery_sold (okM_Bakery_sold T hP) (hr.mono (by decide)) T.b_Bakery_sold .nil ps (pa_cons (pv 1) pa_nil)))) pa_nil))))))), ?_⟩
    refine r_meth (ev_var rfl) (hO.nf (by decide)) fun H1 e1 => ?_
    refine ev_c H1 (Ex.refl _) _ fun H2 e2 => (ev_var rfl) H2 (Ex.refl _) _ fun H3 e3 => (ev_var rfl) H3 (Ex.refl _) _ fun H4 e4 => ?_
    have e14 := ((e1.trans e2).trans e3).trans e4
    exact lc_rzB (ev_var rfl) (hO.mono e14) hne (fun _ => rfl) (by decide) (fun _ => rfl) (fun _ _ => ea_cons (ev_var rfl) ea_nil) fun b H5 Q e5 => .inr ⟨_, day, rfl, hd, hz, fun H6 e6 => k H6 ((e14.trans e5).trans e6)⟩
theorem okF_LifeObserver_see_sold (T : Txt K mg Z) (hP : P = Z.P) : FnOk P w K mg base (L2.CX P w) 5 Z.f_LifeObserver_see_sold Z.d_LifeObserver_see_sold p_LifeObserver_see_sold (sp_seeF K Z) := okX_LifeObserver_see_sold T hP
theorem okX_LifeObserver_see_thrown (T : Txt K mg Z) (hP : P = Z.P) : FnOk P w K mg base (L2.CX P w) 5 Z.f_LifeObserver_see_thrown Z.d_LifeObserver_see_thrown p_LifeObserver_see_thrown (sp_seeF K Z) := by
  refine T.F_LifeObserver_see_thrown.okX sc_LifeObserver_see_thrown (fun vs H Q E h => ?_) (fun cdv Ar outer s H vs Q E hr h => ?_)
  · obtain ⟨o, day, num, bs, ds, F, A, bl, rl, rfl, _⟩ := h
    rfl
  · obtain ⟨o, day, num, bs, ds, F, A, bl, rl, rfl, hd, hz, hO, hne, k⟩ := h
    refine ⟨_, (pss_one (ps_ret (pe_meth (pv 0) T.cl_LifeObserver T.m_LifeObserver__accept (ok_LifeObserver__accept T) (hr.mono (by decide)) T.b_LifeObserver__accept .nil pass0 (pa_cons pe_str (pa_cons (pv 1) (pa_cons (pv 2) (pa_cons (pe_lcR (own := [("bakery", 3)]) (takes_of rfl rfl rfl rfl) rfl rfl rfl sc_LifeObserver_see_thrown.nd (pi_listK K rfl (pe_fldK K rfl (pv 0) rfl)) (blkOk_by (own := [("bakery", 3)]) (N := n_LifeObserver_see_thrown) (sc := defScope s_LifeObserver_see_thrown) (scope := { kind := PySem.ScopeKind.function, names := [ (PySem.Str.ofString ".0", PySem.NameKind.local), (PySem.Str.ofString "bakery", PySem.NameKind.local), (PySem.Str.ofString "day", PySem.NameKind.free)], isGenerator := false, isCoroutine := false, more := [] : PySem.Scope }) (by decide +kernel)) (fun _ _ _ _ _ => (pg_name (i := 3) sc_LifeObserver_see_thrown.nd rfl (Or.inl rfl))) (fun _ _ _ _ _ _ _ ps => (pe_meth (pv 3) T.cl_Bakery T.m_Bakery_thrown (okM_Bakery_thrown T hP) (hr.mono (by decide)) T.b_Bakery_thrown .nil ps (pa_cons (pv 1) pa_nil)))) pa_nil))))))), ?_⟩
    refine r_meth (ev_var rfl) (hO.nf (by decide)) fun H1 e1 => ?_
    refine ev_c H1 (Ex.refl _) _ fun H2 e2 => (ev_var rfl) H2 (Ex.refl _) _ fun H3 e3 => (ev_var rfl) H3 (Ex.refl _) _ fun H4 e4 => ?_
    have e14 := ((e1.trans e2).trans e3).trans e4
    exact lc_rzB (ev_var rfl) (hO.mono e14) hne (fun _ => rfl) (by decide) (fun _ => rfl) (fun _ _ => ea_cons (ev_var rfl) ea_nil) fun b H5 Q e5 => .inr ⟨_, day, rfl, hd, hz, fun H6 e6 => k H6 ((e14.trans e5).trans e6)⟩
theorem okF_LifeObserver_see_thrown (T : Txt K mg Z) (hP : P = Z.P) : FnOk P w K mg base (L2.CX P w) 5 Z.f_LifeObserver_see_thrown Z.d_LifeObserver_see_thrown p_LifeObserver_see_thrown (sp_seeF K Z) := okX_LifeObserver_see_thrown T hP
theorem okX_LifeObserver_see_stock (T : Txt K mg Z) (hP : P = Z.P) : FnOk P w K mg base (L2.CX P w) 5 Z.f_LifeObserver_see_stock Z.d_LifeObserver_see_stock p_LifeObserver_see_stock (sp_seeF K Z) := by
  refine T.F_LifeObserver_see_stock.okX sc_LifeObserver_see_stock (fun vs H Q E h => ?_) (fun cdv Ar outer s H vs Q E hr h => ?_)
  · obtain ⟨o, day, num, bs, ds, F, A, bl, rl, rfl, _⟩ := h
    rfl
  · obtain ⟨o, day, num, bs, ds, F, A, bl, rl, rfl, hd, hz, hO, hne, k⟩ := h
    refine ⟨_, (pss_one (ps_ret (pe_meth (pv 0) T.cl_LifeObserver T.m_LifeObserver__accept (ok_LifeObserver__accept T) (hr.mono (by decide)) T.b_LifeObserver__accept .nil pass0 (pa_cons pe_str (pa_cons (pv 1) (pa_cons (pv 2) (pa_cons (pe_lcR (own := [("bakery", 3)]) (takes_of rfl rfl rfl rfl) rfl rfl rfl sc_LifeObserver_see_stock.nd (pi_listK K rfl (pe_fldK K rfl (pv 0) rfl)) (blkOk_by (own := [("bakery", 3)]) (N := n_LifeObserver_see_stock) (sc := defScope s_LifeObserver_see_stock) (scope := { kind := PySem.ScopeKind.function, names := [ (PySem.Str.ofString ".0", PySem.NameKind.local), (PySem.Str.ofString "bakery", PySem.NameKind.local), (PySem.Str.ofString "day", PySem.NameKind.free)], isGenerator := false, isCoroutine := false, more := [] : PySem.Scope }) (by decide +kernel)) (fun _ _ _ _ _ => (pg_name (i := 3) sc_LifeObserver_see_stock.nd rfl (Or.inl rfl))) (fun _ _ _ _ _ _ _ ps => (pe_meth (pv 3) T.cl_Bakery T.m_Bakery_stock (okM_Bakery_stock T hP) (hr.mono (by decide)) T.b_Bakery_stock .nil ps (pa_cons (pv 1) pa_nil)))) pa_nil))))))), ?_⟩
    refine r_meth (ev_var rfl) (hO.nf (by decide)) fun H1 e1 => ?_
    refine ev_c H1 (Ex.refl _) _ fun H2 e2 => (ev_var rfl) H2 (Ex.refl _) _ fun H3 e3 => (ev_var rfl) H3 (Ex.refl _) _ fun H4 e4 => ?_
    have e14 := ((e1.trans e2).trans e3).trans e4
    exact lc_rzB (ev_var rfl) (hO.mono e14) hne (fun _ => rfl) (by decide) (fun _ => rfl) (fun _ _ => ea_cons (ev_var rfl) ea_nil) fun b H5 Q e5 => .inr ⟨_, day, rfl, hd, hz, fun H6 e6 => k H6 ((e14.trans e5).trans e6)⟩
theorem okF_LifeObserver_see_stock (T : Txt K mg Z) (hP : P = Z.P) : FnOk P w K mg base (L2.CX P w) 5 Z.f_LifeObserver_see_stock Z.d_LifeObserver_see_stock p_LifeObserver_see_stock (sp_seeF K Z) := okX_LifeObserver_see_stock T hP
/-- an observer of amounts that are no bakery's -/
def sp_OinitX (K : PySem.W.Frag) (Z : Ad) : Sp := fun vs H _ E => ∃ (x tb td : Addr) (bs ds : List Int) (p : Str) (i : Int), vs = [.ref x, .ref tb, .ref td] ∧ SqT K H tb (bs.map V.int) ∧ SqT K H td (ds.map V.int) ∧ bs.length ≤ 1000 ∧ ds.length ≤ 1000 ∧ dueB bs ds 1 = some (p, i) ∧ RaiB Z p i H E
theorem okX_LifeObserver___init__ (T : Txt K mg Z) (hP : P = Z.P) : FnOk P w K mg base (L2.CX P w) 8 Z.f_LifeObserver___init__ Z.d_LifeObserver___init__ p_LifeObserver___init__ (sp_OinitX K Z) := by
  refine T.F_LifeObserver___init__.okX sc_LifeObserver___init__ (fun vs H Q E h => ?_) (fun cdv Ar outer s H vs Q E hr h => ?_)
  · obtain ⟨x, tb, td, bs, ds, p, i, rfl, _⟩ := h
    rfl
  · obtain ⟨x, tb, td, bs, ds, p, i, rfl, hb, hd, lb, ld, hdue, k⟩ := h
    obtain ⟨cr, u, cv⟩ := T.cv_Bakery_MAX_LIFE
    refine ⟨_, (pss_cons (ps_fld (pv 0) (pe_lcR (own := [("life", 3)]) (takes_of rfl rfl rfl rfl) rfl rfl rfl sc_LifeObserver___init__.nd (pi_range2 (by rfl) T.b_range (pa_cons pe_int (pa_cons (pe_op op_add (ClX.pe_cval (pe_glob (v := .ref Z.c_Bakery) (by rfl) T.g_Bakery rfl) rfl) pe_int) pa_nil))) (blkOk_by (own := [("life", 3)]) (N := n_LifeObserver___init__) (sc := defScope s_LifeObserver___init__) (scope := { kind := PySem.ScopeKind.function, names := [ (PySem.Str.ofString ".0", PySem.NameKind.local), (PySem.Str.ofString "life", PySem.NameKind.local), (PySem.Str.ofString "Bakery", PySem.NameKind.globalImplicit), (PySem.Str.ofString "bakes", PySem.NameKind.free), (PySem.Str.ofString "demands", PySem.NameKind.free)], isGenerator := false, isCoroutine := false, more := [] : PySem.Scope }) (by decide +kernel)) (fun _ _ _ _ _ => (pg_name (i := 3) sc_LifeObserver___init__.nd rfl (Or.inl rfl))) (fun _ _ _ _ _ _ _ ps => (pe_make T.mk_Bakery (okM_Bakery___init__ T hP) (hr.mono (by decide)) (by rfl) T.g_Bakery T.b_Bakery___init__ .nil ps (pa_cons (pv 1) (pa_cons (pv 2) (pa_cons (pv 3) pa_nil)))))) rfl)
      (pss_one (ps_fld (pv 0) (pe_lst pa_nil) rfl))), ?_⟩
    exact q_fldZ fun Q => lc_rzR (lo := 1) (hi := 31) (ea_cons ev_c (ea_cons (Ev.int_eq (ev_op (ev_cval ev_c cr cv) ev_c rv_I0) (by decide)) ea_nil)) ⟨by decide, by decide, by decide⟩ (fun _ => rfl) fun H1 e1 Q => r_make (ea_cons (ev_var rfl) (ea_cons (ev_var rfl) (ea_cons (ev_var rfl) ea_nil))) (ex_t e1 hb) (ex_t e1 hd) lb ld hdue (k.mono e1)
theorem okM_LifeObserver___init__ (T : Txt K mg Z) (hP : P = Z.P) : FnOk P w K mg base (L2.CX P w) 8 Z.f_LifeObserver___init__ Z.d_LifeObserver___init__ p_LifeObserver___init__ (spOr (sp_Oinit K Z) (sp_OinitX K Z)) := fn_or (fn_lift (ok_LifeObserver___init__ T)) (okX_LifeObserver___init__ T hP)
end Sw
namespace Sw
open PySem PySem.Spec PyProof.Rows L2 Evl LamX NdefX
local macro_rules | `(tactic| walk_at "ev") => `(tactic| first
  | exact ev_c
  | exact ev_var rfl
  | ((with_reducible show Ev (tCB rMax2 _) _ _ _); exact ev_maxi (by walk_at "ev") (by walk_at "ev"))
  | ((with_reducible show Ev (tCB rMn _) _ _ _); exact ev_min2 (by walk_at "ev") (by walk_at "ev"))
  | ((with_reducible show Ev (tUn _ _) _ _ _); exact ev_un (by walk_at "ev") ru_neg)
  | ((with_reducible show Ev (tFld _ _ _) _ _ _); exact ev_fldK (by walk_at "ev") (by assumption))
  | ((with_reducible show Ev (tOp (rI0 _) _ _) _ _ _); exact ev_op (by walk_at "ev") (by walk_at "ev") rv_I0)
  | ((with_reducible show Ev (tOp rEq _ _) _ _ _); exact ev_op (by walk_at "ev") (by walk_at "ev") (rv_eq rfl))
  | ((with_reducible show Ev (tOp rNe _ _) _ _ _); exact ev_op (by walk_at "ev") (by walk_at "ev") (rv_ne rfl)))

/-! ### outcomes of k06: two calls out of range, a list of wrong days -/
section
variable {K : PySem.W.Frag} {J : It} {n : Nat} {G : Hp → Prop} {Y : Nat → Hp → V → Hp → Prop}
theorem lcF_it (w : Walk J n G Y) {g : TG} {te : TE} {vs : List Nat} {σ : L2.St} {H1 : Hp} {D : Addr} {Qd : Hp → Prop} (Pv : Nat → Hp → Prop) (h0 : Pv 0 (upd H1 D (.lst []))) (hG : ∀ i H, i ≤ n → Pv i H → G H)
    (hs : ∀ i x H H', i < n → Pv i H → Y i H x H' → g x (wipe σ vs) H' fun σ2 H2 => wipe σ2 vs = wipe σ vs ∧ te σ2 H2 fun y H4 => ∃ acc, H4 D = some (.lst acc) ∧ acc.length < sizeLine ∧ Pv (i + 1) (upd H4 D (.lst (acc ++ [y])))) (hd : ∀ H, Pv n H → Qd H) :
    ∃ W : Nat → Nat → Hp → Prop, (∃ m, W 0 m (upd H1 D (.lst []))) ∧ ∀ i m H, W i m H →
      (J.stop i H ∧ Qd H) ∨ (J.go i H ∧ ∃ Nx : Hp → Prop, (∀ H', Nx H' → ∃ m', m' < m ∧ W (i + 1) m' H') ∧ ∀ x H', J.yld i H x H' → g x (wipe σ vs) H' fun σ2 H2 => wipe σ2 vs = wipe σ vs ∧
        te σ2 H2 fun y H4 => ∃ acc, H4 D = some (.lst acc) ∧ acc.length < sizeLine ∧ Nx (upd H4 D (.lst (acc ++ [y])))) := by
  refine ⟨fun i m H => m = n - i ∧ i ≤ n ∧ Pv i H, ⟨n, by simp, Nat.zero_le _, h0⟩, ?_⟩
  rintro i m H ⟨rfl, hi, p⟩
  have q := hG i H hi p
  by_cases hlt : i < n
  · exact .inr ⟨w.goes i H hlt q, Pv (i + 1), fun H' p' => ⟨n - (i + 1), by omega, rfl, hlt, p'⟩, fun x H' y => hs i x H H' hlt p (w.yields i H x H' hlt q y)⟩
  · have e : i = n := by omega
    subst e
    exact .inl ⟨w.stops H q, hd H p⟩
theorem mix_over {Cl : Addr → Prop} {H H3 : Hp} (e : Ex (wn H Cl) H3) : Ex H (mixN Cl H H3) := fun b o q => by
  by_cases n : Cl b
  · rw [mix_in n]; exact q
  · rw [mix_ni n]; exact e b o ((wn_ni n).trans q)
theorem cl_none {X : Cx} {σ : L2.St} {H Hz : Hp} {N : Addr → Prop} {scope : Scope} (z : Frz X σ H Hz N) (hfree : ∀ y ∈ scope.names, y.2 = .free → X.env.scope.names.lookup y.1 = some .cell ∨ X.env.scope.names.lookup y.1 = some .free) : ∀ y c, (cloFrom X.env.cells scope.names []).lookup y = some c → H c = none := fun y c e =>
  z.off c ((z.iff c).mpr ⟨y, clo_cm (fun y hy e => z.has y.1 (hfree y hy e)) e⟩)
end
variable {P : Program} {w : World} {K : PySem.W.Frag} {mg : Str → Option Value} {base : Heap} {Z : Ad}
/-- what a call that is out of range does -/
def sp_rN (Z : Ad) : Sp := fun vs H _ E => vs = [] ∧ ∀ H', Ex H H' → E (.ref Z.c_InvalidNumber) none H'
theorem rN_mix {H : Hp} {E : XK} {Cl : Addr → Prop} (r : ∀ H', Ex H H' → E (.ref Z.c_InvalidNumber) none H') : ∀ H3, Ex (wn H Cl) H3 → (fun c d H3 => (∀ b, Cl b → H3 b = none) → E c d (mixN Cl H H3)) (.ref Z.c_InvalidNumber) none H3 := fun H3 e _ => r _ (mix_over e)
abbrev dIN : PyData := .tuple [.str "number"]
theorem s_outs2 {X : Cx} {σ : L2.St} {H : Hp} {tw : TE} {q f1 f2 : Addr} {E : XK} {j : Nat} {tu : TS} {D : Ends} (hw : Ev tw σ H (.ref q)) (hq : SqL K H q [.ref f1, .ref f2]) (hwp : ∀ x, wipe ((wipe σ [j]).set j (some x)) [j] = wipe σ [j]) (hsl : ∀ x, ((wipe σ [j]).set j (some x))[j]? = some (some x))
    (hc : ∀ H1, Ex H H1 → ∀ Hz N, Frz X σ H1 Hz N → ∀ f, f = f1 ∨ f = f2 → Cal P w K mg base (L2.CX P w) 11 f (sp_rN Z) Hz) (fin : ∀ H', Ex H H' → D.nx σ H') :
    tIfS (tTest (tOp (rNeD K) (tLcF X (iList K tw) (gName j) (tCall (sp_err P w K mg base Z) [] E (tCons (tVar j) tNil)) [j]) (tOp rRep (tLst (tCons (tTup (tCons (tC (.str "number")) tNil)) tNil)) (tC (.int 2))))) tu tNext D σ H := by
  refine hw H (Ex.refl _) _ fun H1 e1 => ⟨q, rfl, ⟨_, ex_l e1 hq⟩, ?_⟩
  intro Hz N fz Dl hD
  have fz0 : Ex H1 Hz := fz.ex_
  have nD : ¬ N Dl := fun z => by obtain ⟨o, v, e, _⟩ := fz.inn _ z; rw [hD] at e; cases e
  refine lcF_it (walk_list (K := K) (a := q) (xs := [.ref f1, .ref f2])) (fun i H' => ∃ ts : List Addr, ts.length = i ∧ Ex Hz H' ∧ H' Dl = some (.lst (ts.map V.ref)) ∧ ∀ t ∈ ts, H' t = some (.tup [.str "number"]))
    ⟨[], rfl, Ex.new hD, upd_same, by simp⟩ (fun i H' _ p => ex_l (fz0.trans p.choose_spec.2.1) (ex_l e1 hq)) ?_ ?_
  · rintro i x H2 H2' hi ⟨ts, hl, eZ, hL, ht⟩ ⟨ey, hx⟩
    rw [ey]
    have hx3 : ∃ f, x = .ref f ∧ (f = f1 ∨ f = f2) := by
      match i, hx with
      | 0, hx => cases hx; exact ⟨_, rfl, .inl rfl⟩
      | 1, hx => cases hx; exact ⟨_, rfl, .inr rfl⟩
    obtain ⟨f, rfl, hf⟩ := hx3
    refine ⟨hwp _, ?_⟩
    refine (ev_var (i := j) (hsl _)) H2 (Ex.refl _) _ fun H3 e3 => ?_
    refine ⟨f, sp_rN Z, Hz, rfl, ?_, eZ.trans e3, fun Q1 E1 q1 e1' => ⟨rfl, fun H' ex => e1' _ _ _ (.inr (.inl ⟨rfl, rfl, fun p H4 np ex2 h4 => ?_⟩))⟩⟩
    · exact hc H1 e1 Hz N fz f hf
    · have e24 := (e3.trans ex).trans ex2
      have h5 := e24 _ _ hL
      have npD : p ≠ Dl := fun z => by rw [z, (e3.trans ex) _ _ hL] at np; cases np
      refine ⟨ts.map V.ref, h5, sz_lt (by rw [List.length_map, hl]; have : i < 2 := hi; omega), ts ++ [p], by rw [List.length_append, hl]; rfl, fun b o z => ?_, by rw [upd_same, List.map_append]; rfl, fun t htm => ?_⟩
      · rw [upd_ne (fun y => by rw [y, hD] at z; cases z)]; exact e24 _ _ (eZ _ _ z)
      · rcases List.mem_append.mp htm with z | z
        · have a := ht t z
          have ne : t ≠ Dl := fun y => by rw [y, hL] at a; cases a
          rw [upd_ne ne]; exact e24 _ _ a
        · rw [List.mem_singleton.mp z, upd_ne npD]; exact h4
  · rintro H2 ⟨ts, hl, eZ, hL, ht⟩
    have hl3 : ts.length = 2 := hl
    match ts, hl3, hL, ht with
    | [t1, t2], _, hL, ht =>
      have go : ∀ {b : Addr} {o : HO}, H2 b = some o → (∀ u, o ≠ .frz u okT) → wn H2 N b = some o := fun {b o} e n => (wn_ni fun z => by
        obtain ⟨u, v, e', _⟩ := fz.inn _ z
        have := eZ _ _ e'
        rw [e] at this; exact n u (Option.some.inj this)).trans e
      have eH : Ex H (wn H2 N) := fun b o e => by
        have e' := e1 _ _ e
        rw [wn_ni fun z => by rw [fz.off b z] at e'; cases e']
        exact eZ _ _ (fz0 _ _ e')
      have k0 := go hL fun _ z => nomatch z
      have k1 := go (ht t1 (by simp)) fun _ z => nomatch z
      have k2 := go (ht t2 (by simp)) fun _ z => nomatch z
      generalize wn H2 N = G at eH k0 k1 k2
      dsimp only [tOp, tLst, tCons, tNil]
      refine (eu_tup (H := G) (σ := σ) (xs := [.str "number"]) (ea_cons ev_c ea_nil) (by show 1 ≤ 100000; decide)) G (Ex.refl _) _ fun p H3 np e3 h3 => ⟨sz_of (by show 1 ≤ 100000; decide), fun r hr => ?_⟩
      refine ⟨r, 2, [.ref p], rfl, rfl, upd_same, by decide, by decide, by show 1 * 2 ≤ sizeLine; decide, fun u hu => ?_⟩
      have e5 : Ex G (upd (upd H3 r (.lst [.ref p])) u (.lst (List.replicate (Int.toNat 2) [V.ref p]).flatten)) := (e3.trans (Ex.new hr)).trans (Ex.new hu)
      have hp5 : (upd (upd H3 r (.lst [.ref p])) u (.lst (List.replicate (Int.toNat 2) [V.ref p]).flatten)) p = some (.tup [.str "number"]) := (Ex.new (o := .lst (List.replicate (Int.toNat 2) [V.ref p]).flatten) hu) _ _ ((Ex.new (o := .lst [.ref p]) hr) _ _ h3)
      have hu5 : (upd (upd H3 r (.lst [.ref p])) u (.lst (List.replicate (Int.toNat 2) [V.ref p]).flatten)) u = some (.lst [.ref p, .ref p]) := upd_same
      generalize upd (upd H3 r (.lst [.ref p])) u (.lst (List.replicate (Int.toNat 2) [V.ref p]).flatten) = G5 at e5 hp5 hu5
      have one : ∀ {t : Addr}, G5 t = some (.tup [.str "number"]) → Dp K G5 (.ref t) dIN := fun e => .tup (st_of e) (.cons (.str _) .nil)
      refine ⟨.list [dIN, dIN], .list [dIN, dIN], .lst (sq_of (e5 _ _ k0)) (.cons (one (e5 _ _ k1)) (.cons (one (e5 _ _ k2)) .nil)), .lst (sq_of hu5) (.cons (one hp5) (.cons (one hp5) .nil)), by decide +kernel, by decide +kernel, false, by decide +kernel, ?_⟩
      exact fin _ (eH.trans e5)
end Sw
namespace Sw
open PySem PySem.Spec PyProof.Rows L2 Evl LamX NdefX
local macro_rules | `(tactic| walk_at "ev") => `(tactic| first
  | exact ev_c
  | exact ev_var rfl
  | ((with_reducible show Ev (tCB rMax2 _) _ _ _); exact ev_maxi (by walk_at "ev") (by walk_at "ev"))
  | ((with_reducible show Ev (tCB rMn _) _ _ _); exact ev_min2 (by walk_at "ev") (by walk_at "ev"))
  | ((with_reducible show Ev (tUn _ _) _ _ _); exact ev_un (by walk_at "ev") ru_neg)
  | ((with_reducible show Ev (tFld _ _ _) _ _ _); exact ev_fldK (by walk_at "ev") (by assumption))
  | ((with_reducible show Ev (tOp (rI0 _) _ _) _ _ _); exact ev_op (by walk_at "ev") (by walk_at "ev") rv_I0)
  | ((with_reducible show Ev (tOp rEq _ _) _ _ _); exact ev_op (by walk_at "ev") (by walk_at "ev") (rv_eq rfl))
  | ((with_reducible show Ev (tOp rNe _ _) _ _ _); exact ev_op (by walk_at "ev") (by walk_at "ev") (rv_ne rfl)))

/-! ### outcomes of k10: all of some calls give a value, or all raise InvalidNumber -/
section
variable {K : PySem.W.Frag} {H : Hp}
theorem dps_rep {d : PyData} : ∀ {ts : List Addr}, (∀ t ∈ ts, Dp K H (.ref t) d) → DpAll K H (ts.map V.ref) (List.replicate ts.length d)
  | [], _ => .nil
  | t :: ts, h => .cons (h t List.mem_cons_self) (dps_rep fun x hx => h x (List.mem_cons_of_mem _ hx))
theorem dps_one {d : PyData} {p : Addr} (h : Dp K H (.ref p) d) : ∀ n, DpAll K H (List.replicate n (.ref p)) (List.replicate n d)
  | 0 => .nil
  | n + 1 => .cons h (dps_one h n)
end
def wd (ok : Bool) : Str := if ok = true then "none" else "number"
variable {P : Program} {w : World} {K : PySem.W.Frag} {mg : Str → Option Value} {base : Heap} {Z : Ad}
def sp_oc (Z : Ad) (ok : Bool) : Sp := fun vs H Q E => vs = [] ∧ (ok = true → ∀ v H', Ex H H' → Q v H') ∧ (ok = false → ∀ H', Ex H H' → E (.ref Z.c_InvalidNumber) none H')
theorem ev_outsN {X : Cx} {σ : L2.St} {H : Hp} {tw td : TE} {q : Addr} {fs : List Addr} {n : Nat} {m : Int} {E : XK} {j : Nat} {ok : Bool} (hw : Ev tw σ H (.ref q)) (hq : SqL K H q (fs.map V.ref)) (hn : fs.length = n) (hm : m.toNat = n) (hz : m ≤ 100) (hz0 : 0 ≤ m) (hwp : ∀ x, wipe ((wipe σ [j]).set j (some x)) [j] = wipe σ [j]) (hsl : ∀ x, ((wipe σ [j]).set j (some x))[j]? = some (some x))
    (hc : ∀ H1, Ex H H1 → ∀ Hz N, Frz X σ H1 Hz N → ∀ f, f ∈ fs → Cal P w K mg base (L2.CX P w) 11 f (sp_oc Z ok) Hz)
    (hd : ∀ H1, Ex H H1 → ∀ Q : VK, (∀ p H2, Ex H1 H2 → H2 p = some (.tup [.str (wd ok)]) → Q (.ref p) H2) → td σ H1 Q)
    (sh : SeqAt.shaped (.list (List.replicate n (.tuple [.str (wd ok)]))) = true) (eq : PyData.eqv (.list (List.replicate n (.tuple [.str (wd ok)]))) (.list (List.replicate n (.tuple [.str (wd ok)]))) = true) :
    Ev (tOp (rNeD K) (tLcF X (iList K tw) (gName j) (tCall (sp_err P w K mg base Z) [] E (tCons (tVar j) tNil)) [j]) (tOp rRep (tLst (tCons td tNil)) (tC (.int m)))) σ H (.bl false) := fun H0 e0 R fin => by
  refine hw H0 e0 _ fun H1 e1 => ⟨q, rfl, ⟨_, ex_l (e0.trans e1) hq⟩, ?_⟩
  intro Hz N fz Dl hD
  have fz0 : Ex H1 Hz := fz.ex_
  have nD : ¬ N Dl := fun z => by obtain ⟨o, v, e, _⟩ := fz.inn _ z; rw [hD] at e; cases e
  refine lcF_it (walk_list (K := K) (a := q) (xs := fs.map V.ref)) (fun i H' => ∃ ts : List Addr, ts.length = i ∧ Ex Hz H' ∧ H' Dl = some (.lst (ts.map V.ref)) ∧ ∀ t ∈ ts, H' t = some (.tup [.str (wd ok)]))
    ⟨[], rfl, Ex.new hD, upd_same, by simp⟩ (fun i H' _ p => ex_l (fz0.trans p.choose_spec.2.1) (ex_l (e0.trans e1) hq)) ?_ ?_
  · rintro i x H2 H2' hi ⟨ts, hl, eZ, hL, ht⟩ ⟨ey, hx⟩
    rw [ey]
    rw [List.length_map] at hi
    obtain ⟨f, hf, rfl⟩ : ∃ f, f ∈ fs ∧ x = .ref f := by
      rw [List.getElem?_map] at hx
      obtain ⟨f, hf, e⟩ := Option.map_eq_some_iff.mp hx
      exact ⟨f, List.mem_of_getElem? hf, e.symm⟩
    refine ⟨hwp _, ?_⟩
    refine (ev_var (i := j) (hsl _)) H2 (Ex.refl _) _ fun H3 e3 => ?_
    refine ⟨f, sp_oc Z ok, Hz, rfl, hc H1 (e0.trans e1) Hz N fz f hf, eZ.trans e3, fun Q1 E1 q1 e1' => ⟨rfl, fun ho v H' ex => q1 _ _ fun p H4 np ex2 h4 => ?_, fun ho H' ex => e1' _ _ _ (.inr (.inl ⟨rfl, rfl, fun p H4 np ex2 h4 => ?_⟩))⟩⟩
    all_goals
      have h4 : H4 p = some (.tup [.str (wd ok)]) := by rw [ho]; exact h4
      have e24 := (e3.trans ex).trans ex2
      have h5 := e24 _ _ hL
      have npD : p ≠ Dl := fun z => by rw [z, (e3.trans ex) _ _ hL] at np; cases np
      refine ⟨ts.map V.ref, h5, sz_lt (by rw [List.length_map, hl]; omega), ts ++ [p], by rw [List.length_append, hl]; rfl, fun b o z => ?_, by rw [upd_same, List.map_append]; rfl, fun t htm => ?_⟩
      · rw [upd_ne (fun y => by rw [y, hD] at z; cases z)]; exact e24 _ _ (eZ _ _ z)
      · rcases List.mem_append.mp htm with z | z
        · have a := ht t z
          have ne : t ≠ Dl := fun y => by rw [y, hL] at a; cases a
          rw [upd_ne ne]; exact e24 _ _ a
        · rw [List.mem_singleton.mp z, upd_ne npD]; exact h4
  · rintro H2 ⟨ts, hl, eZ, hL, ht⟩
    rw [List.length_map, hn] at hl
    have go : ∀ {b : Addr} {o : HO}, H2 b = some o → (∀ u, o ≠ .frz u okT) → wn H2 N b = some o := fun {b o} e n => (wn_ni fun z => by
      obtain ⟨u, v, e', _⟩ := fz.inn _ z
      have := eZ _ _ e'
      rw [e] at this; exact n u (Option.some.inj this)).trans e
    have eH : Ex H0 (wn H2 N) := fun b o e => by
      have e' := e1 _ _ e
      rw [wn_ni fun z => by rw [fz.off b z] at e'; cases e']
      exact eZ _ _ (fz0 _ _ e')
    have k0 := go hL fun _ z => nomatch z
    have k1 : ∀ t ∈ ts, wn H2 N t = some (.tup [.str (wd ok)]) := fun t h => go (ht t h) fun _ z => nomatch z
    generalize wn H2 N = G at eH k0 k1
    dsimp only [tOp, tLst, tCons, tNil]
    refine hd G (e0.trans eH) _ fun p H3 e3 h3 => ⟨sz_of (by show 1 ≤ 100000; decide), fun r hr => ?_⟩
    refine ⟨r, m, [.ref p], rfl, rfl, upd_same, by omega, by omega, ?_, fun u hu => ?_⟩
    · show 1 * m.toNat ≤ sizeLine
      have := sizeLine_eq
      omega
    have e5 : Ex G (upd (upd H3 r (.lst [.ref p])) u (.lst (List.replicate m.toNat [V.ref p]).flatten)) := (e3.trans (Ex.new hr)).trans (Ex.new hu)
    have hp5 : (upd (upd H3 r (.lst [.ref p])) u (.lst (List.replicate m.toNat [V.ref p]).flatten)) p = some (.tup [.str (wd ok)]) := (Ex.new (o := .lst (List.replicate m.toNat [V.ref p]).flatten) hu) _ _ ((Ex.new (o := .lst [.ref p]) hr) _ _ h3)
    have hu5 : (upd (upd H3 r (.lst [.ref p])) u (.lst (List.replicate m.toNat [V.ref p]).flatten)) u = some (.lst (List.replicate n (V.ref p))) := by rw [upd_same, List.flatten_replicate_singleton, hm]
    generalize upd (upd H3 r (.lst [.ref p])) u (.lst (List.replicate m.toNat [V.ref p]).flatten) = G5 at e5 hp5 hu5
    have one : ∀ {t : Addr}, G5 t = some (.tup [.str (wd ok)]) → Dp K G5 (.ref t) (.tuple [.str (wd ok)]) := fun e => .tup (st_of e) (.cons (.str _) .nil)
    have all := dps_rep (K := K) (H := G5) (d := .tuple [.str (wd ok)]) (ts := ts) fun t h => one (e5 _ _ (k1 t h))
    rw [hl] at all
    refine ⟨.list (List.replicate n (.tuple [.str (wd ok)])), .list (List.replicate n (.tuple [.str (wd ok)])), .lst (sq_of (e5 _ _ k0)) all, .lst (sq_of hu5) (dps_one (one hp5) n), sh, sh, ?_⟩
    rw [eq]
    exact fin _ (eH.trans e5)
end Sw
namespace Sw
open PySem PySem.Spec PyProof.Rows L2 Evl LamX NdefX
local macro_rules | `(tactic| walk_at "ev") => `(tactic| first
  | exact ev_c
  | exact ev_var rfl
  | ((with_reducible show Ev (tCB rMax2 _) _ _ _); exact ev_maxi (by walk_at "ev") (by walk_at "ev"))
  | ((with_reducible show Ev (tCB rMn _) _ _ _); exact ev_min2 (by walk_at "ev") (by walk_at "ev"))
  | ((with_reducible show Ev (tUn _ _) _ _ _); exact ev_un (by walk_at "ev") ru_neg)
  | ((with_reducible show Ev (tFld _ _ _) _ _ _); exact ev_fldK (by walk_at "ev") (by assumption))
  | ((with_reducible show Ev (tOp (rI0 _) _ _) _ _ _); exact ev_op (by walk_at "ev") (by walk_at "ev") rv_I0)
  | ((with_reducible show Ev (tOp rEq _ _) _ _ _); exact ev_op (by walk_at "ev") (by walk_at "ev") (rv_eq rfl))
  | ((with_reducible show Ev (tOp rNe _ _) _ _ _); exact ev_op (by walk_at "ev") (by walk_at "ev") (rv_ne rfl)))

/-! ### what is known, carried over a lambda's making -/
section
variable {K : PySem.W.Frag} {Z : Ad} {H H1 H' Hz : Hp} {a c C : Addr} {f m : Str} {v : V} {bs ds ks : List Int} {tb td tk : Addr} {gain first full : Int} {fm lm : List Int} {b h l : Addr} {life : Int} {i : Nat}
theorem flk_nt (x : FlK K H a C f v) : FlK K (nt H) a C f v := ⟨let ⟨dx, fs, e, q⟩ := x.fl; ⟨dx, fs, nt_of e (fun _ z => nomatch z), q⟩, x.cl, x.na⟩
theorem nof_nt (x : NoF H a C m) : NoF (nt H) a C m := let ⟨dx, fs, e, q⟩ := x; ⟨dx, fs, nt_of e (fun _ z => nomatch z), q⟩
theorem pr_nt (x : PR K Z H c bs ds ks tb td tk) : PR K Z (nt H) c bs ds ks tb td tk := ⟨flk_nt x.fb, nt_t x.hb, flk_nt x.fd, nt_t x.hd, flk_nt x.fk, nt_l x.hk, nof_nt x.nf, x.gd, x.kl⟩
theorem sr_nt (x : SR K Z H c bs ds ks tb td tk gain first full) : SR K Z (nt H) c bs ds ks tb td tk gain first full := ⟨pr_nt x.pr, flk_nt x.fg, flk_nt x.ff, flk_nt x.fu, nof_nt x.nf, x.gb⟩
theorem co_nt (x : CO K Z H c bs ds ks gain first full fm lm) : CO K Z (nt H) c bs ds ks gain first full fm lm :=
  ⟨let ⟨a, b, c, y⟩ := x.sr; ⟨a, b, c, sr_nt y⟩, let ⟨a, y, z⟩ := x.ffm; ⟨a, flk_nt y, nt_l z⟩, let ⟨a, y, z⟩ := x.flm; ⟨a, flk_nt y, nt_l z⟩, x.lfm, x.llm, x.slm, x.sb, x.sd, fun m hm => nof_nt (x.nf m hm)⟩
theorem bak_nt (x : BakAt K Z H b bs ds life i) : BakAt K Z (nt H) b bs ds life i :=
  ⟨let ⟨a, y, z⟩ := x.fb; ⟨a, flk_nt y, nt_t z⟩, let ⟨a, y, z⟩ := x.fd; ⟨a, flk_nt y, nt_t z⟩, flk_nt x.fl, let ⟨a, y, z⟩ := x.fc; ⟨a, flk_nt y, co_nt z⟩, flk_nt x.fs, let ⟨a, y, z⟩ := x.fr; ⟨a, flk_nt y, nt_t z⟩, x.gd, x.l0, x.l1, x.hi, fun m hm => nof_nt (x.nf m hm)⟩
theorem bak_ext (e : ExtN H H1) (x : BakAt K Z H b bs ds life i) : BakAt K Z H1 b bs ds life i := (bak_nt x).mono ((extN_nt e).trans nt_ex)
end
section
variable {K : PySem.W.Frag} {h l : Addr} {G G' H H' : Hp}
theorem hs_ext (e : ExtN G G') (q : HS G h l) : HS G' h l := let ⟨p, m, r, h1, h2, z⟩ := q; ⟨p, m, r, e _ _ h1 (fun _ z => nomatch z), e _ _ h2 (fun _ z => nomatch z), z⟩
theorem tabs_dr {T : List NTab} (hs : HS H h l) (d : Dr h l H H') (t : TabsN T H) : TabsN T H' := by
  have t1 : TabsN T (wn H (hl h l)) := fun p hp => by
    obtain ⟨ps, h1, h2, h3⟩ := t p hp
    refine ⟨ps, (wn_ni (hl_kind hs h1 fun _ z => nomatch z)).trans h1, h2, fun pos cv hc => ?_⟩
    obtain ⟨c, e1, e2⟩ := h3 pos cv hc
    exact ⟨c, e1, (wn_ni (hl_kind hs e2 fun _ z => by unfold CodeO at z; cases z)).trans e2⟩
  exact (t1.ext d.ex).ext wn_ex
end
section
variable {K : PySem.W.Frag} {Z : Ad}
theorem obs_ext {H H' : Hp} {o F A : Addr} {bs ds : List Int} {bl : List (Addr × Int)} {rl : List (Addr × Rec)} (e : ExtN H H') (x : ObsAt K Z H o bs ds F A bl rl) : ObsAt K Z H' o bs ds F A bl rl :=
  ⟨let ⟨dx, y⟩ := x.inst; ⟨dx, e _ _ y (fun _ z => nomatch z)⟩, x.cl, x.n1, x.n2, e _ _ x.hF (fun _ z => nomatch z), e _ _ x.hA (fun _ z => nomatch z), fun y hy => let ⟨i, z⟩ := x.bak y hy; ⟨i, bak_ext (extN_wn e) z⟩, fun y hy => e _ _ (x.rc y hy) (fun _ z => nomatch z), x.gd, x.nb, x.nr⟩
end
/-! ### lambdas that stand -/
section
variable {K : PySem.W.Frag} {σ : L2.St} {H H' : Hp} {m : Nat} {D : Ends} {tz : TS}
def LamS (mk : Addr → LF) (f : Addr) (H : Hp) : Prop := ∃ c, H f = some (LamO f (mk c)) ∧ H c = some (CodeO c (mk c).qual)
def LamT (mk : Addr → Addr → LF) (i : Int) (f : Addr) (H : Hp) : Prop := ∃ c t, H f = some (LamO f (mk c t)) ∧ H c = some (CodeO c (mk c t).qual) ∧ H t = some (.tup [.int i])
theorem codeO_tbl {c : Addr} {q : Str} (ps : Array Value) : CodeO c q ≠ .tbl ps := fun z => by unfold CodeO at z; cases z
theorem LamS.ext {mk : Addr → LF} {f : Addr} {G G' : Hp} (e : ExtN G G') (x : LamS mk f G) : LamS mk f G' := let ⟨c, a, b⟩ := x; ⟨c, e _ _ a lamO_tbl, e _ _ b codeO_tbl⟩
theorem LamT.ext {mk : Addr → Addr → LF} {i : Int} {f : Addr} {G G' : Hp} (e : ExtN G G') (x : LamT mk i f G) : LamT mk i f G' := let ⟨c, t, a, b, d⟩ := x; ⟨c, t, e _ _ a lamO_tbl, e _ _ b codeO_tbl, e _ _ d fun _ z => nomatch z⟩
theorem ExtN.tr {G G' G'' : Hp} (a : ExtN G G') (b : ExtN G' G'') : ExtN G G'' := fun x o e n => b _ _ (a _ _ e n) n
theorem q_works {T : List NTab} {mk1 : Addr → LF} {mk2 : Addr → Addr → LF} {i : Int} (hT : TabsN T H) (k : ∀ f1 f2 p H', ExtN H H' → TabsN T H' → LamS mk1 f1 H' → LamT mk2 i f2 H' → H' p = some (.lst [.ref f1, .ref f2]) → tz D (σ.set m (some (.ref p))) H') :
    tSeq (tAsg (tLst (tCons (tLamE T mk1) (tCons (tLamD T mk2 i) tNil))) (gName m)) tz D σ H :=
  ⟨hT, fun f1 c1 H1 e1 _ T1 _ a1 b1 => ⟨T1, fun f2 c2 t2 H2 e2 _ T2 _ a2 b2 d2 => ⟨by show 2 ≤ sizeLine; decide, fun p hp => by
    have e3 : Ex H2 (L2.upd H2 p (.lst [.ref f1, .ref f2])) := Ex.new hp
    have e23 := ExtN.tr e2 (extN_of e3)
    exact k f1 f2 p _ (ExtN.tr e1 e23) (T2.ext e3) (LamS.ext e23 ⟨c1, a1, b1⟩) (LamT.ext (extN_of e3) ⟨c2, t2, a2, b2, d2⟩) upd_same⟩⟩⟩
end

/-! ### lists of lambdas, and how they grow -/
section
variable {K : PySem.W.Frag} {σ : L2.St} {H H' : Hp} {m : Nat} {D : Ends} {tz : TS} {T : List NTab}
theorem lamO_lst {f : Addr} {F : LF} (xs : List V) : LamO f F ≠ .lst xs := fun z => by unfold LamO at z; cases z
theorem codeO_lst {c : Addr} {q : Str} (xs : List V) : CodeO c q ≠ .lst xs := fun z => by unfold CodeO at z; cases z
theorem ne_kind {p b : Addr} {xs : List V} {o : HO} (hp : H p = some (.lst xs)) (hb : H b = some o) (n : o ≠ .lst xs) : b ≠ p := fun z => by
  rw [z, hp] at hb; cases hb; exact n rfl
theorem LamS.upd {mk : Addr → LF} {f p : Addr} {xs : List V} {u : HO} (hp : H p = some (.lst xs)) (x : LamS mk f H) : LamS mk f (L2.upd H p u) :=
  let ⟨c, a, b⟩ := x; ⟨c, (upd_ne (ne_kind hp a (lamO_lst _))).trans a, (upd_ne (ne_kind hp b (codeO_lst _))).trans b⟩
theorem LamT.upd {mk : Addr → Addr → LF} {i : Int} {f p : Addr} {xs : List V} {u : HO} (hp : H p = some (.lst xs)) (x : LamT mk i f H) : LamT mk i f (L2.upd H p u) :=
  let ⟨c, t, a, b, d⟩ := x; ⟨c, t, (upd_ne (ne_kind hp a (lamO_lst _))).trans a, (upd_ne (ne_kind hp b (codeO_lst _))).trans b, (upd_ne (ne_kind hp d fun z => nomatch z)).trans d⟩
theorem tabs_upd {p : Addr} {xs : List V} {u : HO} (hp : H p = some (.lst xs)) (t : TabsN T H) : TabsN T (L2.upd H p u) := fun q hq => by
  obtain ⟨ps, h1, h2, h3⟩ := t q hq
  refine ⟨ps, (upd_ne (ne_kind hp h1 fun z => nomatch z)).trans h1, h2, fun pos cv hc => ?_⟩
  obtain ⟨c, e1, e2⟩ := h3 pos cv hc
  exact ⟨c, e1, (upd_ne (ne_kind hp e2 (codeO_lst _))).trans e2⟩
theorem extN_upd {G : Hp} {p : Addr} {u : HO} (e : ExtN G H) (np : G p = none) : ExtN G (L2.upd H p u) := fun b o z n => (upd_ne (ne_of_none z np)).trans (e b o z n)
theorem r_lams3 {mk1 : Addr → LF} {mk2 mk3 : Addr → Addr → LF} {i j : Int} {Q : VK} (hT : TabsN T H) (k : ∀ f1 f2 f3 p H', ExtN H H' → H p = none → TabsN T H' → LamS mk1 f1 H' → LamT mk2 i f2 H' → LamT mk3 j f3 H' → H' p = some (.lst [.ref f1, .ref f2, .ref f3]) → Q (.ref p) H') :
    tLst (tCons (tLamE T mk1) (tCons (tLamD T mk2 i) (tCons (tLamD T mk3 j) tNil))) σ H Q :=
  ⟨hT, fun f1 c1 H1 e1 n1 T1 _ a1 b1 => ⟨T1, fun f2 c2 t2 H2 e2 n2 T2 _ a2 b2 d2 => ⟨T2, fun f3 c3 t3 H3 e3 n3 T3 _ a3 b3 d3 => ⟨by show 3 ≤ sizeLine; decide, fun p hp => by
    have e4 : Ex H3 (L2.upd H3 p (.lst [.ref f1, .ref f2, .ref f3])) := Ex.new hp
    have e34 := ExtN.tr e3 (extN_of e4)
    have e24 := ExtN.tr e2 e34
    exact k f1 f2 f3 p _ (ExtN.tr e1 e24) (n1 _ (n2 _ (n3 _ hp))) (T3.ext e4) (LamS.ext e24 ⟨c1, a1, b1⟩) (LamT.ext e34 ⟨c2, t2, a2, b2, d2⟩) (LamT.ext (extN_of e4) ⟨c3, t3, a3, b3, d3⟩) upd_same⟩⟩⟩⟩
theorem r_lams2 {mk1 : Addr → LF} {mk2 : Addr → Addr → LF} {i : Int} {Q : VK} (hT : TabsN T H) (k : ∀ f1 f2 p H', ExtN H H' → H p = none → TabsN T H' → LamS mk1 f1 H' → LamT mk2 i f2 H' → H' p = some (.lst [.ref f1, .ref f2]) → Q (.ref p) H') :
    tLst (tCons (tLamE T mk1) (tCons (tLamD T mk2 i) tNil)) σ H Q :=
  ⟨hT, fun f1 c1 H1 e1 n1 T1 _ a1 b1 => ⟨T1, fun f2 c2 t2 H2 e2 n2 T2 _ a2 b2 d2 => ⟨by show 2 ≤ sizeLine; decide, fun p hp => by
    have e3 : Ex H2 (L2.upd H2 p (.lst [.ref f1, .ref f2])) := Ex.new hp
    have e23 := ExtN.tr e2 (extN_of e3)
    exact k f1 f2 p _ (ExtN.tr e1 e23) (n1 _ (n2 _ hp)) (T2.ext e3) (LamS.ext e23 ⟨c1, a1, b1⟩) (LamT.ext (extN_of e3) ⟨c2, t2, a2, b2, d2⟩) upd_same⟩⟩⟩
theorem q_asgR {t : TE} (h : ∀ Q : VK, (∀ v H1, tz D (σ.set m (some v)) H1 → Q v H1) → t σ H Q) : tSeq (tAsg t (gName m)) tz D σ H := h (fun v H1 => tz D (σ.set m (some v)) H1) fun _ _ x => x
/-- works.extend([..]) -/
theorem q_extR {t : TE} {ta : TE} {p : Addr} {xs : List V} (ha : Ev ta σ H (.ref p)) (hp : H p = some (.lst xs)) (h : ∀ H1, Ex H H1 → ∀ Q : VK, (∀ r zs H2, H2 p = some (.lst xs) → H2 r = some (.lst zs) → xs.length + zs.length ≤ 100000 → tz D σ (L2.upd H2 p (.lst (xs ++ zs))) → Q (.ref r) H2) → t σ H1 Q) :
    tSeq (tDrop (tBM K "list" rExtend ta (tCons t tNil))) tz D σ H := ha H (Ex.refl _) _ fun H1 e1 =>
  ⟨Or.inl ⟨rfl, xs, sq_of (e1 _ _ hp)⟩, h H1 e1 _ fun r zs H2 h1 h2 hz k => ⟨p, r, xs, zs, rfl, rfl, h1, h2, sz_of hz, k⟩⟩
end
/-! ### what a call does with a number -/
variable {K : PySem.W.Frag} {Z : Ad}
def SpO (Z : Ad) (sp : Sp) (vs : List V) (G : Hp) (ok : Bool) : Prop := ∀ (Q : VK) (E : XK), (ok = true → ∀ v H', Ex G H' → Q v H') → (ok = false → ∀ H', Ex G H' → E (.ref Z.c_InvalidNumber) none H') → sp vs G Q E
theorem so_or {sp : Sp} {hi num : Int} {b : Addr} {G : Hp} (hz : num.natAbs < 10 ^ 30) (good : ∀ n : Nat, (n : Int) ≤ hi → ∀ (Q : VK) (E : XK), (∀ v H', Ex G H' → Q v H') → sp [.ref b, .int (n : Int)] G Q E) : SpO Z (spOr sp (sp_outX Z hi)) [.ref b, .int num] G (decide (0 ≤ num ∧ num ≤ hi)) := fun Q E q x => by
  by_cases c : 0 ≤ num ∧ num ≤ hi
  · obtain ⟨n, rfl⟩ : ∃ n : Nat, num = (n : Int) := ⟨num.toNat, by omega⟩
    exact .inl (good n c.2 Q E (q (by simp [c])))
  · exact .inr ⟨.ref b, num, rfl, by omega, hz, x (by simp [c])⟩
section
variable {bs ds : List Int} {life num : Int} {b : Addr} {i : Nat} {G : Hp}
theorem so_stock (hB : BakAt K Z G b bs ds life i) (hz : num.natAbs < 10 ^ 30) : SpO Z (spOr (sp_Bstock K Z) (sp_outX Z 1000000000000000000)) [.ref b, .int num] G (decide (0 ≤ num ∧ num ≤ 1000000000000000000)) := so_or hz fun n hn Q E q => ⟨b, bs, ds, life, i, n, rfl, hn, hB, fun H2 e => q _ H2 e⟩
theorem so_day {j : Nat} (hB : BakAt K Z G b bs ds life i) (hz : num.natAbs < 10 ^ 30) : SpO Z (spOr (sp_Bday K Z j) (sp_outX Z 1000000000000000000)) [.ref b, .int num] G (decide (0 ≤ num ∧ num ≤ 1000000000000000000)) := so_or hz fun n hn Q E q => ⟨b, bs, ds, life, i, n, rfl, hn, hB, fun H2 e => q _ H2 e⟩
theorem so_tot (hB : BakAt K Z G b bs ds life i) (hz : num.natAbs < 10 ^ 30) : SpO Z (spOr (sp_Btot K Z) (sp_outX Z 1000000000000000000)) [.ref b, .int num] G (decide (0 ≤ num ∧ num ≤ 1000000000000000000)) := so_or hz fun n hn Q E q => ⟨b, bs, ds, life, i, n, rfl, hn, hB, fun p H2 _ e _ => q _ H2 e⟩
theorem so_shelf (hB : BakAt K Z G b bs ds life i) (hz : num.natAbs < 10 ^ 30) : SpO Z (spOr (sp_Bshelf K Z) (sp_outX Z 1000000000000000000)) [.ref b, .int num] G (decide (0 ≤ num ∧ num ≤ 1000000000000000000)) := so_or hz fun n hn Q E q => ⟨b, bs, ds, life, i, n, rfl, hn, hB, fun p xs H2 _ e _ _ => q _ H2 e⟩
theorem so_loss {j : Nat} (hB : BakAt K Z G b bs ds life i) (hz : num.natAbs < 10 ^ 30) : SpO Z (spOr (sp_loss K Z j) (sp_outX Z 1000000000000000000)) [.ref b, .int num] G (decide (0 ≤ num ∧ num ≤ 1000000000000000000)) := so_or hz fun n hn Q E q => ⟨b, bs, ds, life, i, n, rfl, hB, hn, fun v H2 e _ => q _ H2 e⟩
theorem so_choice {A : List Int → List Int → Int → Int → V → Prop} (hB : BakAt K Z G b bs ds life i) (hz : num.natAbs < 10 ^ 30) : SpO Z (spOr (sp_choice K Z A) (sp_outX Z 1000000000000)) [.ref b, .int num] G (decide (0 ≤ num ∧ num ≤ 1000000000000)) := so_or hz fun n hn Q E q => ⟨b, bs, ds, life, n, i, rfl, hB, by omega, hn, fun v H2 e _ => q _ H2 e⟩
theorem so_newest (hB : BakAt K Z G b bs ds life i) (hz : num.natAbs < 10 ^ 30) : SpO Z (spOr (sp_newest K Z) (sp_outX Z 1000)) [.ref b, .int num] G (decide (0 ≤ num ∧ num ≤ 1000)) := so_or hz fun n hn Q E q => ⟨b, bs, ds, life, i, n, rfl, by omega, hB, fun p H2 _ e _ => q _ H2 e⟩
/-- the body of a lambda: a method, a function -/
theorem body_m {σ : L2.St} {H : Hp} {Cl : Addr → Prop} {to : TE} {t : TA} {m : Str} {sp : Sp} {Q : VK} {E : XK} {ok : Bool} (ho : Ev to σ (wn H Cl) (.ref b)) (hm : m ∈ bakMeths) (ht : EvA t σ (wn H Cl) [.int num]) (hB : BakAt K Z (wn H Cl) b bs ds life i)
    (so : ∀ G, BakAt K Z G b bs ds life i → SpO Z sp [.ref b, .int num] G ok) (q : ok = true → ∀ v H', Ex H H' → Q v H') (x : ok = false → ∀ H', Ex H H' → E (.ref Z.c_InvalidNumber) none H') :
    tMeth Z.c_Bakery m sp [] (fun c d H3 => (∀ b, Cl b → H3 b = none) → E c d (mixN Cl H H3)) to t σ (wn H Cl) (fun v H3 => (∀ b, Cl b → H3 b = none) → Q v (mixN Cl H H3)) :=
  r_meth ho (hB.nf _ hm) fun H1 e1 => ht H1 e1 _ fun H2 e2 => so H2 (hB.mono (e1.trans e2)) _ _ (fun k v H3 e3 _ => q k _ _ (mix_over ((e1.trans e2).trans e3))) fun k H3 e3 _ => x k _ (mix_over ((e1.trans e2).trans e3))
theorem body_f {σ : L2.St} {H : Hp} {Cl : Addr → Prop} {t : TA} {sp : Sp} {Q : VK} {E : XK} {ok : Bool} (ht : EvA t σ (wn H Cl) [.ref b, .int num]) (hB : BakAt K Z (wn H Cl) b bs ds life i)
    (so : ∀ G, BakAt K Z G b bs ds life i → SpO Z sp [.ref b, .int num] G ok) (q : ok = true → ∀ v H', Ex H H' → Q v H') (x : ok = false → ∀ H', Ex H H' → E (.ref Z.c_InvalidNumber) none H') :
    tCall sp [] (fun c d H3 => (∀ b, Cl b → H3 b = none) → E c d (mixN Cl H H3)) t σ (wn H Cl) (fun v H3 => (∀ b, Cl b → H3 b = none) → Q v (mixN Cl H H3)) :=
  ht _ (Ex.refl _) _ fun H2 e2 => so H2 (hB.mono e2) _ _ (fun k v H3 e3 _ => q k _ _ (mix_over (e2.trans e3))) fun k H3 e3 _ => x k _ (mix_over (e2.trans e3))
end
end Sw
namespace Sw
open PySem PySem.Spec PyProof.Rows L2 Evl LamX NdefX
local macro_rules | `(tactic| walk_at "ev") => `(tactic| first
  | exact ev_c
  | exact ev_var rfl
  | ((with_reducible show Ev (tCB rMax2 _) _ _ _); exact ev_maxi (by walk_at "ev") (by walk_at "ev"))
  | ((with_reducible show Ev (tCB rMn _) _ _ _); exact ev_min2 (by walk_at "ev") (by walk_at "ev"))
  | ((with_reducible show Ev (tUn _ _) _ _ _); exact ev_un (by walk_at "ev") ru_neg)
  | ((with_reducible show Ev (tFld _ _ _) _ _ _); exact ev_fldK (by walk_at "ev") (by assumption))
  | ((with_reducible show Ev (tOp (rI0 _) _ _) _ _ _); exact ev_op (by walk_at "ev") (by walk_at "ev") rv_I0)
  | ((with_reducible show Ev (tOp rEq _ _) _ _ _); exact ev_op (by walk_at "ev") (by walk_at "ev") (rv_eq rfl))
  | ((with_reducible show Ev (tOp rNe _ _) _ _ _); exact ev_op (by walk_at "ev") (by walk_at "ev") (rv_ne rfl)))

/-! ### words of law k10 -/
section
variable {K : PySem.W.Frag} {Z : Ad} {σ : L2.St} {H H' : Hp} {ta tb tc te : TE} {t : TA} {a b p q h l : Addr} {ns : List Int} {D : Ends} {tu tz tw : TS} {bs ds : List Int} {life : Int} {m n : Nat} {A B : Int → Prop} {P : List Int → Prop}
theorem et_chain {i j k : Int} {f g : Int → Int → Bool} (ha : Ev ta σ H (.int i)) (hb : Ev tb σ H (.int j)) (hc : Ev tc σ H (.int k)) : EvT (tTest (tChain (rI0 fun i j => .bl (f i j)) (rI0 fun i j => .bl (g i j)) ta tb tc)) σ H (f i j && g j k) := et_test (fun H1 e Q q =>
  ha H1 e _ fun H2 e2 => hb H2 (e.trans e2) _ fun H3 e3 => ⟨i, j, rfl, rfl, f i j, rfl, by
    cases hf : f i j with
    | true => exact hc H3 ((e.trans e2).trans e3) _ fun H4 e4 => ⟨j, k, rfl, rfl, by rw [hf] at q; exact q H4 ((e2.trans e3).trans e4)⟩
    | false => rw [hf] at q; exact q H3 (e2.trans e3)⟩)
theorem q_pairX {P : V → Hp → Prop} {A : Int → Prop} (hs : HS H h l) (hx : EvX ta σ H h l P) (hy : EvI tb σ H h l A) (k : ∀ v j H1 H2, Dr h l H H1 → Dr h l H1 H2 → P v (wn H1 (hl h l)) → A j → tz D ((σ.set m (some v)).set n (some (.int j))) H2) :
    tSeq (tAsg (tTup (tCons ta (tCons tb tNil))) (gTup K 2 (gCons (gName m) (gCons (gName n) gNil)))) tz D σ H :=
  hx H (Dr.refl hs) _ fun v H1 d1 p1 => hy H1 d1 _ fun w H2 d2 ⟨j, e, hj⟩ => ⟨by show 2 ≤ sizeLine; decide, fun r hr => by
    subst e
    have d3 := Dr.of d2.hs (Ex.new (o := .tup [v, .int j]) hr)
    exact ⟨r, [v, .int j], rfl, st_of upd_same, rfl, _, _, rfl, _, _, rfl, rfl, k v j H1 _ d1 (d2.trans d3) p1 hj⟩⟩
theorem q_bak1 {t : TA} {E : XK} {pb pd : Addr} {i1 : Nat} (hs : HS H h l) (ht : EvA t σ H [.ref pb, .ref pd, .int life]) (hb : SqT K (wn H (hl h l)) pb (bs.map V.int)) (hd : SqT K (wn H (hl h l)) pd (ds.map V.int)) (gd : Good bs ds) (l0 : 1 ≤ life) (l1 : life ≤ 30)
    (k : ∀ (b : Addr) (i : Nat) (H' : Hp), Dr h l H H' → BakAt K Z (wn H' (hl h l)) b bs ds life i → tz D (σ.set i1 (some (.ref b))) H') : tSeq (tAsg (tMake Z.c_Bakery (sp_Binit K Z) [] E t) (gName i1)) tz D σ H := by
  dsimp only [tSeq, tAsg, gName]
  exact er_bakery ht hb hd gd l0 l1 H (Ex.refl _) hs.kn _ fun b H3 hb0 e3 ⟨i, hB⟩ => k b i H3 (Dr.of hs e3) hB

def EvAX (t : TA) (σ : L2.St) (H : Hp) (h l : Addr) (P : List Int → Prop) : Prop := ∀ H1, Dr h l H H1 → ∀ R : List V → Hp → Prop, (∀ ns H2, Dr h l H1 H2 → P ns → R (ns.map V.int) H2) → t σ H1 R
theorem xa_nil : EvAX tNil σ H h l (fun ns => ns = []) := fun H1 d R q => q [] H1 (Dr.refl d.hs) rfl
theorem xa_cons (ha : EvI te σ H h l A) (hb : EvAX t σ H h l P) : EvAX (tCons te t) σ H h l (fun ns => ∃ i r, ns = i :: r ∧ A i ∧ P r) := fun H1 d R q =>
  ha H1 d _ fun v H2 d2 ⟨i, e, hi⟩ => hb H2 (d.trans d2) _ fun r H3 d3 hr => by
    subst e
    exact q (i :: r) H3 (d2.trans d3) ⟨i, r, rfl, hi, hr⟩
theorem x_lstA (h1 : EvAX t σ H h l P) (hz : ∀ ns, P ns → ns.length ≤ 100000) : EvX (tLst t) σ H h l (fun v G => ∃ p ns, v = .ref p ∧ G p = some (.lst (ns.map V.int)) ∧ P ns) := fun H1 d Q q =>
  h1 H1 d _ fun ns H2 d2 hp => ⟨sz_of (by rw [List.length_map]; exact hz ns hp), fun p np => by
    have e := Ex.new (o := .lst (ns.map V.int)) np
    exact q _ _ (d2.trans (Dr.of d2.hs e)) ⟨p, ns, rfl, (wn_ni (hl_new (G' := H2) d2.hs np)).trans upd_same, hp⟩⟩
theorem xi_pickV (ha : ∀ G, Ev ta σ G (.ref p)) (hp : wn H (hl h l) p = some (.lst (ns.map V.int))) (hb : EvI tb σ H h l B) (hn : ∀ i, B i → 0 ≤ i ∧ i < ns.length) : EvI (tOp (rIxL K) ta tb) σ H h l (fun i => i ∈ ns) := fun H1 d Q q =>
  ha H1 H1 (Ex.refl _) _ fun H2 e2 => hb H2 (d.trans (Dr.of d.hs e2)) _ fun _ H3 d3 ⟨j, e', hj⟩ => by
    subst e'
    obtain ⟨j0, j1⟩ := hn j hj
    refine ⟨p, ns.map V.int, j, .int (ns.getD j.toNat 0), rfl, rfl, sq_of (wn_ex _ _ ((d.trans (Dr.of d.hs e2)).trans d3 |>.ex _ _ hp)), atI_mapI j0 j1, q _ H3 ((Dr.of d.hs e2).trans d3) ⟨_, rfl, ?_⟩⟩
    have hlt : j.toNat < ns.length := by omega
    have e : ns.getD j.toNat 0 = ns[j.toNat] := by simp [List.getD, hlt]
    rw [e]; exact List.getElem_mem hlt
theorem x_obs {E : XK} {pb pd : Addr} (ht : ∀ G, EvA t σ G [.ref pb, .ref pd]) (hb : SqT K (wn H (hl h l)) pb (bs.map V.int)) (hd : SqT K (wn H (hl h l)) pd (ds.map V.int)) (gd : Good bs ds) :
    EvX (tMake Z.c_LifeObserver (sp_Oinit K Z) [] E t) σ H h l (fun v G => ∃ o F A bl, v = .ref o ∧ ObsAt K Z G o bs ds F A bl [] ∧ bl ≠ []) := fun H1 d Q q =>
  er_observer (H := H1) (M := hl h l) (ht H1) (ex_t d.ex hb) (ex_t d.ex hd) gd H1 (Ex.refl _) d.hs.kn Q fun o H2 F A bl _ _ e2 hO hlv => q _ H2 (Dr.of d.hs e2) ⟨o, F, A, bl, rfl, hO, fun z => by rw [z] at hlv; cases hlv⟩
/-- the due word -/
theorem eu_word {tt : TT} {ok : Bool} (h : EvT tt σ H ok) : EvU (tIf tt (tTup (tCons (tC (.str "none")) tNil)) (tTup (tCons (tC (.str "number")) tNil))) σ H [.str (wd ok)] :=
  eu_if h (fun e => by rw [e]; exact eu_tup (ea_cons ev_c ea_nil) (by show 1 ≤ 100000; decide)) (fun e => by rw [e]; exact eu_tup (ea_cons ev_c ea_nil) (by show 1 ≤ 100000; decide))
end
/-! ### the law's state -/
structure S10 (K : PySem.W.Frag) (Z : Ad) (T : List NTab) (h l b pb pd : Addr) (bs ds : List Int) (life : Int) (i : Nat) (H : Hp) : Prop where
  hs : HS H h l
  tb : TabsN T H
  hB : BakAt K Z (wn H (hl h l)) b bs ds life i
  hb : SqT K (wn H (hl h l)) pb (bs.map V.int)
  hd : SqT K (wn H (hl h l)) pd (ds.map V.int)
section
variable {K : PySem.W.Frag} {Z : Ad} {T : List NTab} {h l b pb pd : Addr} {bs ds : List Int} {life : Int} {i : Nat} {H H' : Hp}
theorem S10.ext (e : ExtN H H') (t : TabsN T H') (s : S10 K Z T h l b pb pd bs ds life i H) : S10 K Z T h l b pb pd bs ds life i H' :=
  have g := (extN_nt (extN_wn (N := hl h l) e)).trans nt_ex
  ⟨hs_ext e s.hs, t, bak_ext (extN_wn e) s.hB, ex_t g (nt_t s.hb), ex_t g (nt_t s.hd)⟩
theorem S10.mono (e : Ex H H') (s : S10 K Z T h l b pb pd bs ds life i H) : S10 K Z T h l b pb pd bs ds life i H' := s.ext (extN_of e) (s.tb.ext e)
theorem S10.dr (d : Dr h l H H') (s : S10 K Z T h l b pb pd bs ds life i H) : S10 K Z T h l b pb pd bs ds life i H' := ⟨d.hs, tabs_dr s.hs d s.tb, s.hB.mono d.ex, ex_t d.ex s.hb, ex_t d.ex s.hd⟩
end
/-! ### one call -/
variable {P : Program} {w : World} {K : PySem.W.Frag} {mg : Str → Option Value} {base : Heap} {Z : Ad}
theorem word_shaped (s : Str) (h : s.length ≤ 1000) : SeqAt.shaped (.tuple [.str (wd true)]) = true ∧ SeqAt.shaped (.tuple [.str (wd false)]) = true := ⟨by decide +kernel, by decide +kernel⟩
theorem ev_neWord {σ : L2.St} {G : Hp} {p : Addr} {td : TE} {ok : Bool} (h : SqT K G p [.str (wd ok)]) (hd : EvU td σ G [.str (wd ok)]) : Ev (tOp (rNeD K) (tC (.ref p)) td) σ G (.bl false) := fun H1 e Q q =>
  hd H1 e _ fun r H2 _ e2 h2 => ⟨_, _, .tup (ex_t (e.trans e2) h) (.cons (.str _) .nil), .tup (st_of h2) (.cons (.str _) .nil), by cases ok <;> decide +kernel, by cases ok <;> decide +kernel, by
    have z : PyData.eqv (.tuple [.str (wd ok)]) (.tuple [.str (wd ok)]) = true := by cases ok <;> decide +kernel
    rw [z]; exact q H2 e2⟩
theorem q_ocE {X : Cx} {σ : L2.St} {G : Hp} {T : List NTab} {mk : Addr → LF} {td : TE} {tu tz : TS} {D : Ends} {ok : Bool} (hT : TabsN T G)
    (lam : ∀ f c' H7 Hz N, ExtN G H7 → H7 f = some (LamO f (mk c')) → H7 c' = some (CodeO c' (mk c').qual) → Frz X σ H7 Hz N → Cal P w K mg base (L2.CX P w) 11 f (sp_oc Z ok) Hz)
    (due : ∀ G', EvU td σ G' [.str (wd ok)]) (fin : ∀ G', ExtN G G' → TabsN T G' → tz D σ G') :
    tSeq (tIfS (tTest (tOp (rNeD K) (tCallZ X (sp_err P w K mg base Z) [] (tCons (tLamE T mk) tNil)) td)) tu tNext) tz D σ G := by
  refine ⟨hT, fun f c' H7 eN _ T7 hf0 hf hc Hz N fz => ?_⟩
  have C := lam f c' H7 Hz N eN hf hc fz
  have nN : ∀ {b : Addr} {o : HO}, H7 b = some o → ¬ N b := fun e n => by rw [fz.off _ n] at e; cases e
  have all : ∀ p' H' H2, Ex Hz H' → H' p' = none → Ex H' H2 → H2 p' = some (.tup [.str (wd ok)]) → tSeq (tIfS (tTest (tOp (rNeD K) (tC (.ref p')) td)) tu tNext) tz D σ (wn H2 N) := fun p' H' H2 ex np e2 h2 => by
    have hk : ∀ {b : Addr} {o : HO}, H7 b = some o → wn H2 N b = some o := fun e => (wn_ni (nN e)).trans (e2 _ _ (ex _ _ (fz.ex_ _ _ e)))
    have np' : ¬ N p' := fun n => by
      obtain ⟨o, v, e, _⟩ := fz.inn p' n
      rw [e2 _ _ (ex _ _ e)] at h2; cases h2
    have hv : wn H2 N p' = some (.tup [.str (wd ok)]) := (wn_ni np').trans h2
    have T2 : TabsN T (wn H2 N) := T7.ext fun b o e => hk e
    have en : ExtN G (wn H2 N) := fun b o e n => hk (eN b o e n)
    exact q_when (b := false) (et_test (ev_neWord (st_of hv) (due _))) (fun hb => nomatch hb) fun _ H3 e3 => fin H3 (ExtN.tr en (extN_of e3)) (T2.ext e3)
  exact ⟨f, _, Hz, rfl, C, Ex.refl _, fun Q1 E1 q1 e1 => ⟨rfl, fun ho v H' ex => q1 _ _ fun p' H2 np e2 h2 => all p' H' H2 ex np e2 (by rw [ho]; exact h2), fun ho H' ex => e1 _ _ _ (.inr (.inl ⟨rfl, rfl, fun p' H2 np e2 h2 => all p' H' H2 ex np e2 (by rw [ho]; exact h2)⟩))⟩⟩
end Sw
namespace Sw
open PySem PySem.Spec PyProof.Rows L2 Evl LamX NdefX
local macro_rules | `(tactic| walk_at "ev") => `(tactic| first
  | exact ev_c
  | exact ev_var rfl
  | ((with_reducible show Ev (tCB rMax2 _) _ _ _); exact ev_maxi (by walk_at "ev") (by walk_at "ev"))
  | ((with_reducible show Ev (tCB rMn _) _ _ _); exact ev_min2 (by walk_at "ev") (by walk_at "ev"))
  | ((with_reducible show Ev (tUn _ _) _ _ _); exact ev_un (by walk_at "ev") ru_neg)
  | ((with_reducible show Ev (tFld _ _ _) _ _ _); exact ev_fldK (by walk_at "ev") (by assumption))
  | ((with_reducible show Ev (tOp (rI0 _) _ _) _ _ _); exact ev_op (by walk_at "ev") (by walk_at "ev") rv_I0)
  | ((with_reducible show Ev (tOp rEq _ _) _ _ _); exact ev_op (by walk_at "ev") (by walk_at "ev") (rv_eq rfl))
  | ((with_reducible show Ev (tOp rNe _ _) _ _ _); exact ev_op (by walk_at "ev") (by walk_at "ev") (rv_ne rfl)))

/-! ### the last words of law k10 -/
section
variable {K : PySem.W.Frag} {Z : Ad} {σ : L2.St} {H H' : Hp} {ta tb te : TE} {a p : Addr} {xs : List V} {D : Ends} {tu tz : TS} {bs ds : List Int} {T : List NTab}
theorem q_appLam {mk : Addr → LF} (hT : TabsN T H) (ha : Ev ta σ H (.ref p)) (hp : H p = some (.lst xs)) (hz : xs.length < 100000) (k : ∀ f H1, ExtN H H1 → TabsN T H1 → LamS mk f H1 → H1 p = some (.lst xs) → tz D σ (L2.upd H1 p (.lst (xs ++ [.ref f])))) :
    tSeq (tDrop (tBM K "list" rAppend ta (tCons (tLamE T mk) tNil))) tz D σ H := ha H (Ex.refl _) _ fun H1 e1 =>
  ⟨Or.inl ⟨rfl, xs, sq_of (e1 _ _ hp)⟩, hT.ext e1, fun f c H2 e2 _ T2 _ a b =>
    have h2 : H2 p = some (.lst xs) := e2 _ _ (e1 _ _ hp) fun _ z => nomatch z
    ⟨p, xs, .ref f, rfl, rfl, h2, sz_lt hz, k f H2 (ExtN.tr (extN_of e1) e2) T2 ⟨c, a, b⟩ h2⟩⟩
theorem pw6 : (10 : Int) ^ (6 : Int).toNat = 1000000 := by decide
section
variable {o F A : Addr} {bl : List (Addr × Int)} {rl : List (Addr × Rec)} {E : XK}
theorem el_recsP (h : Ev ta σ H (.ref o)) (hO : ObsAt K Z H o bs ds F A bl rl) : EvL (tProp Z.c_LifeObserver (sp_Orecs K Z) [] E ta) σ H (rl.map fun x => V.ref x.1) := fun H1 e Q q => h H1 e _ fun H2 e2 =>
  let ⟨dx, x⟩ := hO.inst; ⟨o, dx, _, rfl, e2 _ _ (e _ _ x), o, bs, ds, F, A, bl, rl, rfl, hO.mono (e.trans e2), fun p H3 np e3 h3 => q p H3 (fresh_back e2 np) (e2.trans e3) h3⟩
end
def AB (n : Nat) (A : Int → Prop) : List Int → Prop := fun ns => ns.length = n ∧ ∀ x ∈ ns, A x
theorem xb_nil {h l : Addr} {A : Int → Prop} : EvAX tNil σ H h l (AB 0 A) := fun H1 d R q => q [] H1 (Dr.refl d.hs) ⟨rfl, fun x hx => by cases hx⟩
theorem xb_cons {h l : Addr} {t : TA} {n : Nat} {A : Int → Prop} (ha : EvI te σ H h l A) (hb : EvAX t σ H h l (AB n A)) : EvAX (tCons te t) σ H h l (AB (n + 1) A) := fun H1 d R q =>
  ha H1 d _ fun v H2 d2 ⟨i, e, hi⟩ => hb H2 (d.trans d2) _ fun r H3 d3 hr => by
    subst e
    exact q (i :: r) H3 (d2.trans d3) ⟨by rw [List.length_cons, hr.1], fun x hx => by
      rcases List.mem_cons.mp hx with z | z
      · rw [z]; exact hi
      · exact hr.2 x z⟩
theorem due10 (gd : Good bs ds) (hl : (bs.length : Int) ≤ 3) : dueB bs (ds ++ [0]) 1 = some (Str.ofString "demands", (-1 : Int)) := by
  have n0 := gd.n0
  have ld := gd.ld
  have ok : ∀ {am : List Int}, am.length ≤ 20 → (∀ x ∈ am, 0 ≤ x ∧ x ≤ 1000000000) → badAt am = none := fun {am} hl h => badAt_no fun j hj => by
    have e : am.getD j 0 = am[j] := by simp [List.getD, hj]
    have b := h _ (List.getElem_mem hj)
    unfold badP
    rw [e]
    simp only [Bool.or_eq_false_iff, decide_eq_false_iff_not]
    omega
  have b1 := ok (am := bs) (by omega) gd.b0
  have b2 := ok (am := ds ++ [0]) (by rw [List.length_append]; show _ + 1 ≤ _; omega) fun x hx => by
    rcases List.mem_append.mp hx with z | z
    · exact gd.d0 x z
    · rw [List.mem_singleton.mp z]; omega
  have z0 : ¬ bs.length = 0 := by omega
  have z1 : (ds ++ [0]).length ≠ bs.length := by rw [List.length_append]; show _ + 1 ≠ _; omega
  unfold dueB
  simp only [b1, b2, if_neg z0, if_pos z1]
theorem r_makeO {sp : Sp} {Q : VK} {E : XK} {s : Str} {i : Int} (ha : Ev ta σ H (.ref a)) (hb : EvW K tb σ H (ds.map V.int)) (hA : SqT K H a (bs.map V.int)) (lb : bs.length ≤ 1000) (ld : ds.length ≤ 1000) (hd : dueB bs ds 1 = some (s, i)) (k : RaiB Z s i H E) :
    tMake Z.c_LifeObserver (spOr sp (sp_OinitX K Z)) [] E (tCons ta (tCons tb tNil)) σ H Q := ha H (Ex.refl _) _ fun H1 e1 => hb H1 e1 _ fun q H2 e2 hq x dx hx hdx hne => by
  have eN : Ex H2 (L2.upd (L2.upd H2 dx (.own x)) x (.ins Z.c_LifeObserver dx [])) := fun b o hbo => by
    rw [upd_ne (ne_of_none hbo hx), upd_ne (ne_of_none hbo hdx)]; exact hbo
  exact .inr ⟨x, a, q, bs, ds, s, i, rfl, ex_t ((e1.trans e2).trans eN) hA, ex_t eN hq, lb, ld, hd, k.mono ((e1.trans e2).trans eN)⟩
end
theorem body_s {K : PySem.W.Frag} {Z : Ad} {σ : L2.St} {H : Hp} {Cl : Addr → Prop} {to : TE} {t : TA} {m : Str} {Q : VK} {E : XK} {o F A : Addr} {bs ds : List Int} {far num : Int} {bl : List (Addr × Int)} {rl : List (Addr × Rec)} (ho : Ev to σ (wn H Cl) (.ref o)) (hm : m ∈ obsMeths) (ht : EvA t σ (wn H Cl) [.int far, .int num]) (hO : ObsAt K Z (wn H Cl) o bs ds F A bl rl)
    (f1 : far < 0 ∨ 1000000000000000000 < far) (f2 : far.natAbs < 10 ^ 30) (hbl : bl ≠ []) (x : ∀ H', Ex H H' → E (.ref Z.c_InvalidNumber) none H') :
    tMeth Z.c_LifeObserver m (sp_seeF K Z) [] (fun c d H3 => (∀ b, Cl b → H3 b = none) → E c d (mixN Cl H H3)) to t σ (wn H Cl) (fun v H3 => (∀ b, Cl b → H3 b = none) → Q v (mixN Cl H H3)) :=
  r_meth ho (hO.nf hm) fun H1 e1 => ht H1 e1 _ fun H2 e2 => ⟨o, far, num, bs, ds, F, A, bl, rl, rfl, f1, f2, hO.mono (e1.trans e2), hbl, fun H3 e3 _ => x _ (mix_over ((e1.trans e2).trans e3))⟩
theorem body_k {K : PySem.W.Frag} {Z : Ad} {σ : L2.St} {H : Hp} {Cl : Addr → Prop} {ta tb : TE} {sp : Sp} {Q : VK} {E : XK} {a d : Addr} {bs ds : List Int} (ha : Ev ta σ (wn H Cl) (.ref a)) (hb : Ev tb σ (wn H Cl) (.ref d)) (hA : SqT K (wn H Cl) a (bs.map V.int)) (hD : SqT K (wn H Cl) d (ds.map V.int)) (gd : Good bs ds) (hl : (bs.length : Int) ≤ 3) (rz : RaiB Z "demands" (-1) H E) :
    tMake Z.c_LifeObserver (spOr sp (sp_OinitX K Z)) [] (fun c d H3 => (∀ b, Cl b → H3 b = none) → E c d (mixN Cl H H3)) (tCons ta (tCons (tOp (rCatA K) tb (tTup (tCons (tC (.int 0)) tNil))) tNil)) σ (wn H Cl) (fun v H3 => (∀ b, Cl b → H3 b = none) → Q v (mixN Cl H H3)) :=
  r_makeO (bs := bs) (ds := ds ++ [0]) ha (by
    rw [List.map_append]
    exact ew_cat (ew_of hb hD) (EvU.w (eu_tup (ea_cons ev_c ea_nil) (by show 1 ≤ 100000; decide))) (by have := gd.ld; rw [List.length_map]; show _ + 1 ≤ _; omega)) hA (by omega) (by have := gd.ld; rw [List.length_append]; show _ + 1 ≤ _; omega) (due10 gd hl) (by
    intro dd H3 ex nd hd hcl
    have nc : ¬ Cl dd := fun z => by rw [hcl dd z] at hd; cases hd
    exact rz dd _ (mix_over ex) ((wn_ni nc).symm.trans nd) ((mix_ni nc).trans hd))
variable {P : Program} {w : World} {K : PySem.W.Frag} {mg : Str → Option Value} {base : Heap} {Z : Ad}
def sp_rB (Z : Ad) (s : Str) (i : Int) : Sp := fun vs H _ E => vs = [] ∧ RaiB Z s i H E
theorem rB_mix {s : Str} {i : Int} {H : Hp} {E : XK} {Cl : Addr → Prop} (rz : RaiB Z s i H E) : RaiB Z s i (wn H Cl) (fun c d H3 => (∀ b, Cl b → H3 b = none) → E c d (mixN Cl H H3)) := fun d H3 ex nd hd hcl => by
  have nc : ¬ Cl d := fun z => by rw [hcl d z] at hd; cases hd
  exact rz d _ (mix_over ex) ((wn_ni nc).symm.trans nd) ((mix_ni nc).trans hd)
abbrev bkV : List V := [.str "bakery", .str "demands", .int (-1)]
theorem ev_neBk {σ : L2.St} {G : Hp} {p : Addr} {td : TE} (h : SqT K G p bkV) (hd : EvU td σ G bkV) : Ev (tOp (rNeD K) (tC (.ref p)) td) σ G (.bl false) := fun H1 e Q q =>
  hd H1 e _ fun r H2 _ e2 h2 => ⟨.tuple [.str "bakery", .str "demands", .int (-1)], .tuple [.str "bakery", .str "demands", .int (-1)], .tup (ex_t (e.trans e2) h) (.cons (.str _) (.cons (.str _) (.cons (.int _) .nil))), .tup (st_of h2) (.cons (.str _) (.cons (.str _) (.cons (.int _) .nil))), by decide +kernel, by decide +kernel, by
    have z : PyData.eqv (.tuple [.str "bakery", .str "demands", .int (-1)]) (.tuple [.str "bakery", .str "demands", .int (-1)]) = true := by decide +kernel
    rw [z]; exact q H2 e2⟩
theorem s_bkE {X : Cx} {σ : L2.St} {G : Hp} {T : List NTab} {mk : Addr → LF} {td : TE} {tu : TS} {D : Ends} (hT : TabsN T G)
    (lam : ∀ f c' H7 Hz N, ExtN G H7 → H7 f = some (LamO f (mk c')) → H7 c' = some (CodeO c' (mk c').qual) → Frz X σ H7 Hz N → Cal P w K mg base (L2.CX P w) 11 f (sp_rB Z "demands" (-1)) Hz)
    (due : ∀ G', EvU td σ G' bkV) (fin : ∀ G', ExtN G G' → TabsN T G' → D.nx σ G') :
    tIfS (tTest (tOp (rNeD K) (tCallZ X (sp_err P w K mg base Z) [] (tCons (tLamE T mk) tNil)) td)) tu tNext D σ G := by
  refine ⟨hT, fun f c' H7 eN _ T7 hf0 hf hc Hz N fz => ?_⟩
  have C := lam f c' H7 Hz N eN hf hc fz
  have nN : ∀ {b : Addr} {o : HO}, H7 b = some o → ¬ N b := fun e n => by rw [fz.off _ n] at e; cases e
  refine ⟨f, _, Hz, rfl, C, Ex.refl _, fun Q1 E1 q1 e1 => ⟨rfl, fun d H' ex nd hd => e1 _ _ _ (.inl ⟨d, "demands", -1, rfl, rfl, hd, fun p' H2 np e2 h2 => ?_⟩)⟩⟩
  have hk : ∀ {b : Addr} {o : HO}, H7 b = some o → wn H2 N b = some o := fun e => (wn_ni (nN e)).trans (e2 _ _ (ex _ _ (fz.ex_ _ _ e)))
  have np' : ¬ N p' := fun n => by
    obtain ⟨o, v, e, _⟩ := fz.inn p' n
    rw [e2 _ _ (ex _ _ e)] at h2; cases h2
  have hv : wn H2 N p' = some (.tup bkV) := (wn_ni np').trans h2
  have T2 : TabsN T (wn H2 N) := T7.ext fun b o e => hk e
  have en : ExtN G (wn H2 N) := fun b o e n => hk (eN b o e n)
  have go : tIfS (tTest (tOp (rNeD K) (tC (.ref p')) td)) tu tNext D σ (wn H2 N) := s_when (b := false) (et_test (ev_neBk (st_of hv) (due _))) (fun hb => nomatch hb) fun _ H3 e3 => fin H3 (ExtN.tr en (extN_of e3)) (T2.ext e3)
  exact go
end Sw
namespace Sw
open PySem PySem.Spec PyProof.Rows L2 Evl LamX NdefX
local macro_rules | `(tactic| walk_at "ev") => `(tactic| first
  | exact ev_c
  | exact ev_var rfl
  | ((with_reducible show Ev (tCB rMax2 _) _ _ _); exact ev_maxi (by walk_at "ev") (by walk_at "ev"))
  | ((with_reducible show Ev (tCB rMn _) _ _ _); exact ev_min2 (by walk_at "ev") (by walk_at "ev"))
  | ((with_reducible show Ev (tUn _ _) _ _ _); exact ev_un (by walk_at "ev") ru_neg)
  | ((with_reducible show Ev (tFld _ _ _) _ _ _); exact ev_fldK (by walk_at "ev") (by assumption))
  | ((with_reducible show Ev (tOp (rI0 _) _ _) _ _ _); exact ev_op (by walk_at "ev") (by walk_at "ev") rv_I0)
  | ((with_reducible show Ev (tOp rEq _ _) _ _ _); exact ev_op (by walk_at "ev") (by walk_at "ev") (rv_eq rfl))
  | ((with_reducible show Ev (tOp rNe _ _) _ _ _); exact ev_op (by walk_at "ev") (by walk_at "ev") (rv_ne rfl)))

def sp_lawT (K : PySem.W.Frag) (tb : Addr) : Sp := fun vs H Q _ => ∃ (a : Addr) (ns : List Int), vs = [.ref a] ∧ SqL K H a (ns.map V.int) ∧ ns.length ≤ 63 ∧ H tb = some (.tbl #[]) ∧ ∀ H', Q (.bl true) H'
def nmLaw : Nat → Nat → Str := fun _ _ => "law.<locals>." ++ "<lambda>"
variable {P : Program} {w : World} {K : PySem.W.Frag} {mg : Str → Option Value} {base : Heap} {Z : Ad}
set_option maxHeartbeats 0 in
theorem ok_law (T : Txt K mg Z) (hP : P = Z.P) (TB : LamX.TabB base mg Z.k_law Z.tb_law) : FnOk P w K mg base CX0 13 Z.f_law Z.d_law p_law (sp_lawT K Z.tb_law) := by
  refine T.FC_law.ok sc_law (fun vs H Q E h => ?_) (fun Ar outer s H vs Q E hr h => ?_)
  · obtain ⟨a, ns, rfl, _⟩ := h
    rfl
  · obtain ⟨a, cells, rfl, hS, hn, hT0, k⟩ := h
    have TBm : (Z.tb_law, nmLaw) ∈ [(Z.tb_law, nmLaw)] := List.mem_singleton.mpr rfl
    have TBu : ∀ p ∈ [(Z.tb_law, nmLaw)], p.1 = Z.tb_law → p.2 = nmLaw := fun p hp _ => by rw [List.mem_singleton.mp hp]
    have T0 : TabsN [(Z.tb_law, nmLaw)] H := fun p hp => by rw [List.mem_singleton.mp hp]; exact TabN.nil hT0
    refine ⟨_, (pss_cons (ps_set (i := 1) sc_law.nd rfl (Or.inl rfl) (pe_call (ok__law_mix T) (hr.mono (by decide)) (by rfl) T.g__law_mix T.F__law_mix.kp T.b__law_mix .nil pass0 (pa_cons (pv 0) (pa_cons pe_int pa_nil))))
      (pss_cons (ps_for PassesOwn.never rfl (pi_range1 (by rfl) T.b_range (pa_cons pe_int pa_nil)) (pg_name (i := 2) sc_law.nd rfl (Or.inl rfl)) (pss_cons (ps_asg (pe_call (ok__law_parts T) (hr.mono (by decide)) (by rfl) T.g__law_parts T.F__law_parts.kp T.b__law_parts .nil pass0 (pa_cons (pv 1) (pa_cons pe_int (pa_cons pe_int pa_nil)))) (by exact (pg_tupK K (n := 3) rfl rfl (pgs_cons (pg_name (i := 8) sc_law.nd rfl (Or.inr rfl)) (pgs_cons (pg_name (i := 9) sc_law.nd rfl (Or.inr rfl)) (pgs_cons (pg_name (i := 3) sc_law.nd rfl (Or.inl rfl)) pgs_nil))))))
      (pss_cons (ps_set (i := 7) sc_law.nd rfl (Or.inr rfl) (pe_make T.mk_Bakery (ok_Bakery___init__ T) (hr.mono (by decide)) (by rfl) T.g_Bakery T.b_Bakery___init__ .nil pass0 (pa_cons (pv 8) (pa_cons (pv 9) (pa_cons (pv 3) pa_nil)))))
      (pss_cons (ps_set (i := 4) sc_law.nd rfl (Or.inl rfl) (pe_lst (pa_cons (pe_un un_neg pe_int) (pa_cons pe_int (pa_cons pe_int (pa_cons pe_int (pa_cons pe_int (pa_cons (pe_op op_pow pe_int pe_int) (pa_cons (pe_op op_add (pe_op op_pow pe_int pe_int) pe_int) (pa_cons (pe_op op_pow pe_int pe_int) (pa_cons (pe_op op_add (pe_op op_pow pe_int pe_int) pe_int) (pa_cons (pe_un un_neg (pe_op op_pow pe_int pe_int)) (pa_cons (pe_call (ok__law_next T) (hr.mono (by decide)) (by rfl) T.g__law_next T.F__law_next.kp T.b__law_next .nil pass0 (pa_cons (pv 1) (pa_cons (pe_op op_pow pe_int pe_int) pa_nil))) pa_nil)))))))))))))
      (pss_cons (ps_set (i := 11) sc_law.nd rfl (Or.inr rfl) (pe_ix (r := rIxL K) ix_list (pv 4) (pe_call (ok__law_next T) (hr.mono (by decide)) (by rfl) T.g__law_next T.F__law_next.kp T.b__law_next .nil pass0 (pa_cons (pv 1) (pa_cons pe_int pa_nil))) (fun _ _ => rfl)))
      (pss_cons (ps_set (i := 5) sc_law.nd rfl (Or.inl rfl) (pe_ifExp (pt_chain op_le op_le pe_int (pv 11) (pe_op op_pow pe_int pe_int)) (pe_tup (pa_cons pe_str pa_nil)) (pe_tup (pa_cons pe_str pa_nil))))
      (pss_cons (ps_set (i := 6) sc_law.nd rfl (Or.inl rfl) (pe_lst (pa_cons (pe_lamE TB rfl TBm rfl TBu rfl (fun y hy e => ndef_free (sc := defScope s_law) (fr := []) (by decide +kernel) y hy e)) (pa_cons (pe_lamD TB rfl TBm rfl TBu pe_int rfl (fun y hy e => ndef_free (sc := defScope s_law) (fr := []) (by decide +kernel) y hy e)) (pa_cons (pe_lamD TB rfl TBm rfl TBu pe_int rfl (fun y hy e => ndef_free (sc := defScope s_law) (fr := []) (by decide +kernel) y hy e)) pa_nil)))))
      (pss_cons (ps_expr (pe_bm PySem.F.plainAttrs_list PySem.F.slot_list_extend PySem.F.type_list_extend mt_extend (pv 6) (pa_cons (pe_lst (pa_cons (pe_lamE TB rfl TBm rfl TBu rfl (fun y hy e => ndef_free (sc := defScope s_law) (fr := []) (by decide +kernel) y hy e)) (pa_cons (pe_lamD TB rfl TBm rfl TBu pe_int rfl (fun y hy e => ndef_free (sc := defScope s_law) (fr := []) (by decide +kernel) y hy e)) (pa_cons (pe_lamD TB rfl TBm rfl TBu pe_int rfl (fun y hy e => ndef_free (sc := defScope s_law) (fr := []) (by decide +kernel) y hy e)) pa_nil)))) pa_nil)))
      (pss_cons (ps_expr (pe_bm PySem.F.plainAttrs_list PySem.F.slot_list_extend PySem.F.type_list_extend mt_extend (pv 6) (pa_cons (pe_lst (pa_cons (pe_lamE TB rfl TBm rfl TBu rfl (fun y hy e => ndef_free (sc := defScope s_law) (fr := []) (by decide +kernel) y hy e)) (pa_cons (pe_lamD TB rfl TBm rfl TBu pe_int rfl (fun y hy e => ndef_free (sc := defScope s_law) (fr := []) (by decide +kernel) y hy e)) pa_nil))) pa_nil)))
      (pss_cons (ps_if (pt_cmpR (op_neD hr.units) (pe_lcF (own := [("_law_call", 13)]) (sc := { kind := PySem.ScopeKind.function, names := [ (PySem.Str.ofString ".0", PySem.NameKind.local), (PySem.Str.ofString "_law_call", PySem.NameKind.local), (PySem.Str.ofString "_law_error", PySem.NameKind.globalImplicit)], isGenerator := false, isCoroutine := false, more := [] : PySem.Scope }) rfl sc_law.nd (pi_listK K rfl (pv 6)) (blkOk_by (own := [("_law_call", 13)]) (N := n_law) (sc := defScope s_law) (scope := { kind := PySem.ScopeKind.function, names := [ (PySem.Str.ofString ".0", PySem.NameKind.local), (PySem.Str.ofString "_law_call", PySem.NameKind.local), (PySem.Str.ofString "_law_error", PySem.NameKind.globalImplicit)], isGenerator := false, isCoroutine := false, more := [] : PySem.Scope }) (by decide +kernel)) (by decide +kernel) (fun _ _ _ _ _ => (pg_name (i := 13) sc_law.nd rfl (Or.inl rfl))) (fun _ _ _ _ _ => (pe_call (ok__law_error (P := P) (w := w) (base := base) T) (hr.mono (by decide)) (by rfl) T.g__law_error T.F__law_error.kp T.b__law_error .nil pass0 (pa_cons (pv 13) pa_nil)))) (pe_op op_rep (pe_lst (pa_cons (pv 5) pa_nil)) pe_int) (nomark _)) (pss_one (ps_ret pe_bl)) pss_nil)
      (pss_cons (ps_set (i := 5) sc_law.nd rfl (Or.inl rfl) (pe_ifExp (pt_chain op_le op_le pe_int (pv 11) (pe_op op_pow pe_int pe_int)) (pe_tup (pa_cons pe_str pa_nil)) (pe_tup (pa_cons pe_str pa_nil))))
      (pss_cons (ps_set (i := 6) sc_law.nd rfl (Or.inl rfl) (pe_lst (pa_cons (pe_lamE TB rfl TBm rfl TBu rfl (fun y hy e => ndef_free (sc := defScope s_law) (fr := []) (by decide +kernel) y hy e)) (pa_cons (pe_lamD TB rfl TBm rfl TBu pe_int rfl (fun y hy e => ndef_free (sc := defScope s_law) (fr := []) (by decide +kernel) y hy e)) pa_nil))))
      (pss_cons (ps_if (pt_cmpR (op_neD hr.units) (pe_lcF (own := [("_law_call", 13)]) (sc := { kind := PySem.ScopeKind.function, names := [ (PySem.Str.ofString ".0", PySem.NameKind.local), (PySem.Str.ofString "_law_call", PySem.NameKind.local), (PySem.Str.ofString "_law_error", PySem.NameKind.globalImplicit)], isGenerator := false, isCoroutine := false, more := [] : PySem.Scope }) rfl sc_law.nd (pi_listK K rfl (pv 6)) (blkOk_by (own := [("_law_call", 13)]) (N := n_law) (sc := defScope s_law) (scope := { kind := PySem.ScopeKind.function, names := [ (PySem.Str.ofString ".0", PySem.NameKind.local), (PySem.Str.ofString "_law_call", PySem.NameKind.local), (PySem.Str.ofString "_law_error", PySem.NameKind.globalImplicit)], isGenerator := false, isCoroutine := false, more := [] : PySem.Scope }) (by decide +kernel)) (by decide +kernel) (fun _ _ _ _ _ => (pg_name (i := 13) sc_law.nd rfl (Or.inl rfl))) (fun _ _ _ _ _ => (pe_call (ok__law_error (P := P) (w := w) (base := base) T) (hr.mono (by decide)) (by rfl) T.g__law_error T.F__law_error.kp T.b__law_error .nil pass0 (pa_cons (pv 13) pa_nil)))) (pe_op op_rep (pe_lst (pa_cons (pv 5) pa_nil)) pe_int) (nomark _)) (pss_one (ps_ret pe_bl)) pss_nil)
      (pss_cons (ps_if (pt_cmpR (op_neD hr.units) (pe_callZ (ok__law_error T) (hr.mono (by decide)) (by rfl) T.g__law_error T.F__law_error.kp T.b__law_error .nil (pa_cons (pe_lamE TB rfl TBm rfl TBu rfl (fun y hy e => ndef_free (sc := defScope s_law) (fr := []) (by decide +kernel) y hy e)) pa_nil)) (pe_ifExp (pt_chain op_le op_le pe_int (pv 11) pe_int) (pe_tup (pa_cons pe_str pa_nil)) (pe_tup (pa_cons pe_str pa_nil))) (nomark _)) (pss_one (ps_ret pe_bl)) pss_nil)
      (pss_cons (ps_asg (pe_tup (pa_cons (pe_make T.mk_LifeObserver (ok_LifeObserver___init__ T) (hr.mono (by decide)) (by rfl) T.g_LifeObserver T.b_LifeObserver___init__ .nil pass0 (pa_cons (pv 8) (pa_cons (pv 9) pa_nil))) (pa_cons (pe_ix (r := rIxL K) ix_list (pe_lst (pa_cons (pe_un un_neg pe_int) (pa_cons (pe_op op_add (pe_op op_pow pe_int pe_int) pe_int) pa_nil))) (pe_call (ok__law_next T) (hr.mono (by decide)) (by rfl) T.g__law_next T.F__law_next.kp T.b__law_next .nil pass0 (pa_cons (pv 1) (pa_cons pe_int pa_nil))) (fun _ _ => rfl)) pa_nil))) (by exact (pg_tupK K (n := 2) rfl rfl (pgs_cons (pg_name (i := 12) sc_law.nd rfl (Or.inr rfl)) (pgs_cons (pg_name (i := 10) sc_law.nd rfl (Or.inr rfl)) pgs_nil)))))
      (pss_cons (ps_set (i := 6) sc_law.nd rfl (Or.inl rfl) (pe_lst (pa_cons (pe_lamE TB rfl TBm rfl TBu rfl (fun y hy e => ndef_free (sc := defScope s_law) (fr := []) (by decide +kernel) y hy e)) (pa_cons (pe_lamD TB rfl TBm rfl TBu pe_int rfl (fun y hy e => ndef_free (sc := defScope s_law) (fr := []) (by decide +kernel) y hy e)) pa_nil))))
      (pss_cons (ps_expr (pe_bm PySem.F.plainAttrs_list PySem.F.slot_list_append PySem.F.type_list_append mt_append (pv 6) (pa_cons (pe_lamE TB rfl TBm rfl TBu rfl (fun y hy e => ndef_free (sc := defScope s_law) (fr := []) (by decide +kernel) y hy e)) pa_nil)))
      (pss_cons (ps_if (PW.pt (pw_or (pt_cmpR (op_neD hr.units) (pe_lcF (own := [("_law_call", 13)]) (sc := { kind := PySem.ScopeKind.function, names := [ (PySem.Str.ofString ".0", PySem.NameKind.local), (PySem.Str.ofString "_law_call", PySem.NameKind.local), (PySem.Str.ofString "_law_error", PySem.NameKind.globalImplicit)], isGenerator := false, isCoroutine := false, more := [] : PySem.Scope }) rfl sc_law.nd (pi_listK K rfl (pv 6)) (blkOk_by (own := [("_law_call", 13)]) (N := n_law) (sc := defScope s_law) (scope := { kind := PySem.ScopeKind.function, names := [ (PySem.Str.ofString ".0", PySem.NameKind.local), (PySem.Str.ofString "_law_call", PySem.NameKind.local), (PySem.Str.ofString "_law_error", PySem.NameKind.globalImplicit)], isGenerator := false, isCoroutine := false, more := [] : PySem.Scope }) (by decide +kernel)) (by decide +kernel) (fun _ _ _ _ _ => (pg_name (i := 13) sc_law.nd rfl (Or.inl rfl))) (fun _ _ _ _ _ => (pe_call (ok__law_error (P := P) (w := w) (base := base) T) (hr.mono (by decide)) (by rfl) T.g__law_error T.F__law_error.kp T.b__law_error .nil pass0 (pa_cons (pv 13) pa_nil)))) (pe_op op_rep (pe_lst (pa_cons (pe_tup (pa_cons pe_str pa_nil)) pa_nil)) pe_int) (nomark _)) (pw_or1 (pt_cmpR (op_neD hr.units) (pe_prop (pv 12) T.cl_LifeObserver T.pp_LifeObserver_records (ok_LifeObserver_records T) (hr.mono (by decide)) T.b_LifeObserver_records .nil pass0 rfl) (pe_lst pa_nil) (nomark _))))) (pss_one (ps_ret pe_bl)) pss_nil)
      (pss_one (ps_if (pt_cmpR (op_neD hr.units) (pe_callZ (ok__law_error T) (hr.mono (by decide)) (by rfl) T.g__law_error T.F__law_error.kp T.b__law_error .nil (pa_cons (pe_lamE TB rfl TBm rfl TBu rfl (fun y hy e => ndef_free (sc := defScope s_law) (fr := []) (by decide +kernel) y hy e)) pa_nil)) (pe_tup (pa_cons pe_str (pa_cons pe_str (pa_cons (pe_un un_neg pe_int) pa_nil)))) (nomark _)) (pss_one (ps_ret pe_bl)) pss_nil))))))))))))))))))))
      (pss_one (ps_ret pe_bl)))), ?_⟩
    refine ⟨_, rfl, a, cells, 10, rfl, hS, hn, by decide, by decide, fun h l H1 hh hl' e1 hs1 => ?_⟩
    refine q_forR1 (n := 2) (ea_cons ev_c ea_nil) ⟨by decide, by decide⟩ (fun _ σ' H' => (∃ x2 x3 x4 x5 x6 x7 x8 x9 x10 x11 x12 x13, σ' = [some (.ref a), some (.ref h), x2, x3, x4, x5, x6, x7, x8, x9, x10, x11, x12, x13]) ∧ HS H' h l ∧ TabsN [(Z.tb_law, nmLaw)] H')
      (fun H2 e2 => ⟨⟨_, _, _, _, _, _, _, _, _, _, _, _, rfl⟩, hs1.mono e2, (T0.ext e1).ext e2⟩) ?_ (fun σ' H' q => by
        obtain ⟨⟨_, _, _, _, _, _, _, _, _, _, _, _, rfl⟩, _, _⟩ := q
        exact s_ret ev_c fun H2 _ => k H2)
    rintro turn σ' H0 ht ⟨⟨_, _, _, _, _, _, _, _, _, _, _, _, rfl⟩, hs0, T1⟩
    -- the parts, the bakery
    refine x_asgG (P := fun v G => ∃ p pb pd bs ds life wide, v = .ref p ∧ G p = some (.tup [.ref pb, .ref pd, .int life]) ∧ Parts K G pb pd bs ds life 3 wide) hs0 (x_call3 (A := fun i => i = 3) (B := fun i => i = 9) (fun G => ev_var rfl) (xi_ev ev_c rfl) (xi_ev ev_c rfl)
      (fun i j H2 hi hj d Q q => by
        subst hi hj
        exact ⟨h, l, 3, 9, rfl, by decide, by decide, by decide, by decide, d.hs, fun p pb pd bs ds life H3 d3 hp hP => q _ H3 d3 ⟨p, pb, pd, bs, ds, life, 9, rfl, hp, hP⟩⟩)) fun v H2 d2 ⟨p, pb, pd, bs, ds, life, wide, e, hp, hP⟩ => ?_
    subst e
    refine ⟨p, [.ref pb, .ref pd, .int life], rfl, st_of (wn_ex _ _ hp), rfl, _, _, rfl, _, _, rfl, _, _, rfl, rfl, ?_⟩
    have gd := hP.gd
    have l0 := hP.l0
    have l1 := hP.l1
    have lb3 := hP.ml
    have hb2 := hP.hb
    have hd2 := hP.hd
    have T2 := tabs_dr hs0 d2 T1
    have hs2 := d2.hs
    clear hP hp
    refine q_bak1 hs2 (ea_cons (ev_var rfl) (ea_cons (ev_var rfl) (ea_cons (ev_var rfl) ea_nil))) hb2 hd2 gd l0 l1 fun b i H3 d3 hB3 => ?_
    have s3 : S10 K Z [(Z.tb_law, nmLaw)] h l b pb pd bs ds life i H3 := ⟨d3.hs, tabs_dr hs2 d3 T2, hB3, ex_t d3.ex hb2, ex_t d3.ex hd2⟩
    clear hB3 d3 hb2 hd2 T2 hs2 d2
    -- a number
    refine x_asg (P := fun v G => ∃ (p : Addr) (ns : List Int), v = .ref p ∧ G p = some (.lst (ns.map V.int)) ∧ AB 11 (fun x => x.natAbs < 10 ^ 30) ns) s3.hs (x_lstA (xb_cons (xi_ev (ev_un ev_c ru_neg) (by decide)) (xb_cons (xi_ev ev_c (by decide)) (xb_cons (xi_ev ev_c (by decide)) (xb_cons (xi_ev ev_c (by decide)) (xb_cons (xi_ev ev_c (by decide)) (xb_cons (xi_ev (ev_pow ⟨by decide, by decide, by decide⟩ pw12) (by decide)) (xb_cons (xi_ev (ev_op (ev_pow ⟨by decide, by decide, by decide⟩ pw12) ev_c rv_I0) (by decide)) (xb_cons (xi_ev (ev_pow ⟨by decide, by decide, by decide⟩ pw18) (by decide)) (xb_cons (xi_ev (ev_op (ev_pow ⟨by decide, by decide, by decide⟩ pw18) ev_c rv_I0) (by decide)) (xb_cons (xi_ev (ev_un (ev_pow ⟨by decide, by decide, by decide⟩ pw18) ru_neg) (by decide)) (xb_cons ((xi_next (A := fun i => i = 1000000) (fun G => ev_var rfl) (xi_ev (ev_pow ⟨by decide, by decide, by decide⟩ pw6) rfl) (fun i e => by omega)).imp fun v q => by obtain ⟨i, e, q2⟩ := q.2; have := q.1; show v.natAbs < 10 ^ 30; omega) xb_nil))))))))))) (fun ns hp => by rw [hp.1]; decide)) fun v H4 d4 ⟨pn, ns, ev, hpn, hnl, hnb⟩ => ?_
    subst ev
    refine x_asgI (A := fun x => x.natAbs < 10 ^ 30) d4.hs ((xi_pickV (K := K) (B := fun i => 0 ≤ i ∧ i < 11) (fun G => ev_var rfl) hpn ((xi_next (A := fun i => i = 11) (fun G => ev_var rfl) (xi_ev ev_c rfl) (fun i e => by omega)).imp fun v q => ⟨q.1, by obtain ⟨i, e, q⟩ := q.2; omega⟩) (fun i q => by omega)).imp fun x hx => hnb x hx) fun num H5 d5 hz => ?_
    have s5 := (s3.dr d4).dr d5
    clear s3 d4 hpn hnl hnb
    -- all that takes a day
    refine q_asgU (eu_word (ok := decide (0 ≤ num ∧ num ≤ 1000000000000000000)) (et_is (et_chain (f := fun i j => decide (i ≤ j)) (g := fun i j => decide (i ≤ j)) (k := 1000000000000000000) ev_c (ev_var rfl) (ev_pow ⟨by decide, by decide, by decide⟩ pw18)) (by simp))) fun pw H6 nw e6 hw6 => ?_
    have s6 := s5.mono e6
    refine q_asgR fun Q fin => r_lams3 (i := 0) (j := 0) s6.tb fun f1 f2 f3 q H7 e7 nq T7 W1 W2 W3 hq7 => fin _ _ ?_
    have s7 := s6.ext e7 T7
    have hw7 := e7 _ _ hw6 fun _ z => nomatch z
    refine q_extR (ev_var rfl) hq7 fun H8 e8 Q fin2 => r_lams3 (i := 0) (j := 0) (s7.tb.ext e8) fun f4 f5 f6 r H9 e9 nr T9 W4 W5 W6 hr9 => ?_
    have hq9 := e9 _ _ (e8 _ _ hq7) fun _ z => nomatch z
    refine fin2 r _ H9 hq9 hr9 (by show 3 + 3 ≤ 100000; decide) ?_
    have e79 := ExtN.tr (extN_of e8) e9
    have nq6 : H6 q = none := nq
    have hqA : (L2.upd H9 q (.lst ([V.ref f1, V.ref f2, V.ref f3] ++ [V.ref f4, V.ref f5, V.ref f6]))) q = some (.lst [V.ref f1, V.ref f2, V.ref f3, V.ref f4, V.ref f5, V.ref f6]) := upd_same
    have eA := extN_upd (u := .lst ([V.ref f1, V.ref f2, V.ref f3] ++ [V.ref f4, V.ref f5, V.ref f6])) (ExtN.tr e7 e79) nq
    have TA := tabs_upd (u := .lst ([V.ref f1, V.ref f2, V.ref f3] ++ [V.ref f4, V.ref f5, V.ref f6])) hq9 T9
    have W1 := LamS.upd (u := .lst ([V.ref f1, V.ref f2, V.ref f3] ++ [V.ref f4, V.ref f5, V.ref f6])) hq9 (LamS.ext e79 W1)
    have W2 := LamT.upd (u := .lst ([V.ref f1, V.ref f2, V.ref f3] ++ [V.ref f4, V.ref f5, V.ref f6])) hq9 (LamT.ext e79 W2)
    have W3 := LamT.upd (u := .lst ([V.ref f1, V.ref f2, V.ref f3] ++ [V.ref f4, V.ref f5, V.ref f6])) hq9 (LamT.ext e79 W3)
    have W4 := LamS.upd (u := .lst ([V.ref f1, V.ref f2, V.ref f3] ++ [V.ref f4, V.ref f5, V.ref f6])) hq9 W4
    have W5 := LamT.upd (u := .lst ([V.ref f1, V.ref f2, V.ref f3] ++ [V.ref f4, V.ref f5, V.ref f6])) hq9 W5
    have W6 := LamT.upd (u := .lst ([V.ref f1, V.ref f2, V.ref f3] ++ [V.ref f4, V.ref f5, V.ref f6])) hq9 W6
    generalize L2.upd H9 q (.lst ([V.ref f1, V.ref f2, V.ref f3] ++ [V.ref f4, V.ref f5, V.ref f6])) = HA at hqA eA TA W1 W2 W3 W4 W5 W6 ⊢
    refine q_extR (ev_var rfl) hqA fun HB eB Q fin3 => r_lams2 (i := 0) (TA.ext eB) fun f7 f8 r' HC eC nr' TC W7 W8 hrC => ?_
    have hqC := eC _ _ (eB _ _ hqA) fun _ z => nomatch z
    refine fin3 r' _ HC hqC hrC (by show 6 + 2 ≤ 100000; decide) ?_
    have eAC := ExtN.tr (extN_of eB) eC
    have hqD : (L2.upd HC q (.lst ([V.ref f1, V.ref f2, V.ref f3, V.ref f4, V.ref f5, V.ref f6] ++ [V.ref f7, V.ref f8]))) q = some (.lst (List.map V.ref [f1, f2, f3, f4, f5, f6, f7, f8])) := upd_same
    have eD := extN_upd (u := .lst ([V.ref f1, V.ref f2, V.ref f3, V.ref f4, V.ref f5, V.ref f6] ++ [V.ref f7, V.ref f8])) (ExtN.tr eA eAC) nq
    have TD := tabs_upd (u := .lst ([V.ref f1, V.ref f2, V.ref f3, V.ref f4, V.ref f5, V.ref f6] ++ [V.ref f7, V.ref f8])) hqC TC
    have W1 := LamS.upd (u := .lst ([V.ref f1, V.ref f2, V.ref f3, V.ref f4, V.ref f5, V.ref f6] ++ [V.ref f7, V.ref f8])) hqC (LamS.ext eAC W1)
    have W2 := LamT.upd (u := .lst ([V.ref f1, V.ref f2, V.ref f3, V.ref f4, V.ref f5, V.ref f6] ++ [V.ref f7, V.ref f8])) hqC (LamT.ext eAC W2)
    have W3 := LamT.upd (u := .lst ([V.ref f1, V.ref f2, V.ref f3, V.ref f4, V.ref f5, V.ref f6] ++ [V.ref f7, V.ref f8])) hqC (LamT.ext eAC W3)
    have W4 := LamS.upd (u := .lst ([V.ref f1, V.ref f2, V.ref f3, V.ref f4, V.ref f5, V.ref f6] ++ [V.ref f7, V.ref f8])) hqC (LamS.ext eAC W4)
    have W5 := LamT.upd (u := .lst ([V.ref f1, V.ref f2, V.ref f3, V.ref f4, V.ref f5, V.ref f6] ++ [V.ref f7, V.ref f8])) hqC (LamT.ext eAC W5)
    have W6 := LamT.upd (u := .lst ([V.ref f1, V.ref f2, V.ref f3, V.ref f4, V.ref f5, V.ref f6] ++ [V.ref f7, V.ref f8])) hqC (LamT.ext eAC W6)
    have W7 := LamS.upd (u := .lst ([V.ref f1, V.ref f2, V.ref f3, V.ref f4, V.ref f5, V.ref f6] ++ [V.ref f7, V.ref f8])) hqC W7
    have W8 := LamT.upd (u := .lst ([V.ref f1, V.ref f2, V.ref f3, V.ref f4, V.ref f5, V.ref f6] ++ [V.ref f7, V.ref f8])) hqC W8
    generalize L2.upd HC q (.lst ([V.ref f1, V.ref f2, V.ref f3, V.ref f4, V.ref f5, V.ref f6] ++ [V.ref f7, V.ref f8])) = HD at hqD eD TD W1 W2 W3 W4 W5 W6 W7 W8 ⊢
    have sD := s6.ext eD TD
    have hwD := eD _ _ hw6 fun _ z => nomatch z
    clear hqA eA TA hqC eC eB TC hq9 e9 e8 T9 hq7 e7 T7 eAC e79 hrC hr9 s7 hw7
    refine q_when (b := false) (et_test (ev_outsN (n := 8) (ok := decide (0 ≤ num ∧ num ≤ 1000000000000000000)) (ev_var rfl) (sq_of hqD) rfl rfl (by decide) (by decide) (fun _ => rfl) (fun _ => rfl) (fun G eG Hz N fz f hf => ?_) (fun H1 e Q q => (ev_var rfl) H1 (Ex.refl _) _ fun H2 e2 => q _ H2 e2 ((e.trans e2) _ _ hwD)) (by cases decide (0 ≤ num ∧ num ≤ 1000000000000000000) <;> decide +kernel) (by cases decide (0 ≤ num ∧ num ≤ 1000000000000000000) <;> decide +kernel))) (fun hb => nomatch hb) fun _ HE eE => ?_
    · have hBG : BakAt K Z G b bs ds life i := sD.hB.mono (wn_ex.trans eG)
      simp only [List.mem_cons, List.not_mem_nil, or_false] at hf
      rcases hf with rfl | rfl | rfl | rfl | rfl | rfl | rfl | rfl
      · obtain ⟨cc, aa, bb⟩ := W1
        refine lam_cal (N := ["_law_bakery", "_law_number"]) (ps := []) (fr := ["_law_bakery", "_law_number"]) (k := 10) (S0 := G) (clo_frz (js := [7, 11]) fz (eG _ _ aa) (eG _ _ bb) rfl (fun y hy e => ndef_free (sc := defScope s_law) (fr := []) (by decide +kernel) y hy e) (ndef_fr (sc := defScope s_law) (by decide +kernel)) rfl) (nscope_by (by dsimp only; decide +kernel)) backsX (fun _ _ us hl => match us, hl with | [], _ => rfl) (fun vs H Q E q => by rw [q.1]; rfl) fz.ex_ (cl_none fz (fun y hy e => ndef_free (sc := defScope s_law) (fr := []) (by decide +kernel) y hy e)) (fun A outer s H vs Q E hr eS x0 q => ?_)
        obtain ⟨rfl, qo, qx⟩ := q
        refine ⟨_, pe_meth (pv 0) T.cl_Bakery T.m_Bakery_stock (okM_Bakery_stock T hP) (hr.mono (by decide)) T.b_Bakery_stock .nil (passes_call (takes_of rfl rfl rfl rfl) (fun _ _ _ _ h => h)) (pa_cons (pv 1) pa_nil), ?_⟩
        exact body_m (ev_var rfl) (by decide) (ea_cons (ev_var rfl) ea_nil) (hBG.mono x0) (fun G hB => so_stock hB hz) qo qx
      · obtain ⟨cc, tt, aa, bb, ii⟩ := W2
        refine lam_calD (N := ["_law_a", "_law_bakery", "_law_number"]) (p := "_law_a") (fr := ["_law_bakery", "_law_number"]) (k := 10) (S0 := G) (clo_frz (js := [7, 11]) fz (eG _ _ aa) (eG _ _ bb) rfl (fun y hy e => ndef_free (sc := defScope s_law) (fr := []) (by decide +kernel) y hy e) (ndef_fr (sc := defScope s_law) (by decide +kernel)) rfl) (fz.ex_ _ _ (eG _ _ ii)) (nscope_by (by dsimp only; decide +kernel)) backsX (fun _ _ u s o n ho hs => BindsTo.of_defaults (T := tt) rfl ho hs rfl rfl) (fun vs H Q E q => q.1) fz.ex_ (cl_none fz (fun y hy e => ndef_free (sc := defScope s_law) (fr := []) (by decide +kernel) y hy e)) (fun A outer s H Q E hr eS x0 q => ?_)
        obtain ⟨_, qo, qx⟩ := q
        refine ⟨_, pe_meth (pv 1) T.cl_Bakery T.m_Bakery_sold (okM_Bakery_sold T hP) (hr.mono (by decide)) T.b_Bakery_sold .nil (passes_call (takes_of rfl rfl rfl rfl) (fun _ _ _ _ h => h)) (pa_cons (pv 2) pa_nil), ?_⟩
        exact body_m (ev_var rfl) (by decide) (ea_cons (ev_var rfl) ea_nil) (hBG.mono x0) (fun G hB => so_day hB hz) qo qx
      · obtain ⟨cc, tt, aa, bb, ii⟩ := W3
        refine lam_calD (N := ["_law_b", "_law_bakery", "_law_number"]) (p := "_law_b") (fr := ["_law_bakery", "_law_number"]) (k := 10) (S0 := G) (clo_frz (js := [7, 11]) fz (eG _ _ aa) (eG _ _ bb) rfl (fun y hy e => ndef_free (sc := defScope s_law) (fr := []) (by decide +kernel) y hy e) (ndef_fr (sc := defScope s_law) (by decide +kernel)) rfl) (fz.ex_ _ _ (eG _ _ ii)) (nscope_by (by dsimp only; decide +kernel)) backsX (fun _ _ u s o n ho hs => BindsTo.of_defaults (T := tt) rfl ho hs rfl rfl) (fun vs H Q E q => q.1) fz.ex_ (cl_none fz (fun y hy e => ndef_free (sc := defScope s_law) (fr := []) (by decide +kernel) y hy e)) (fun A outer s H Q E hr eS x0 q => ?_)
        obtain ⟨_, qo, qx⟩ := q
        refine ⟨_, pe_meth (pv 1) T.cl_Bakery T.m_Bakery_missed (okM_Bakery_missed T hP) (hr.mono (by decide)) T.b_Bakery_missed .nil (passes_call (takes_of rfl rfl rfl rfl) (fun _ _ _ _ h => h)) (pa_cons (pv 2) pa_nil), ?_⟩
        exact body_m (ev_var rfl) (by decide) (ea_cons (ev_var rfl) ea_nil) (hBG.mono x0) (fun G hB => so_day hB hz) qo qx
      · obtain ⟨cc, aa, bb⟩ := W4
        refine lam_cal (N := ["_law_bakery", "_law_number"]) (ps := []) (fr := ["_law_bakery", "_law_number"]) (k := 10) (S0 := G) (clo_frz (js := [7, 11]) fz (eG _ _ aa) (eG _ _ bb) rfl (fun y hy e => ndef_free (sc := defScope s_law) (fr := []) (by decide +kernel) y hy e) (ndef_fr (sc := defScope s_law) (by decide +kernel)) rfl) (nscope_by (by dsimp only; decide +kernel)) backsX (fun _ _ us hl => match us, hl with | [], _ => rfl) (fun vs H Q E q => by rw [q.1]; rfl) fz.ex_ (cl_none fz (fun y hy e => ndef_free (sc := defScope s_law) (fr := []) (by decide +kernel) y hy e)) (fun A outer s H vs Q E hr eS x0 q => ?_)
        obtain ⟨rfl, qo, qx⟩ := q
        refine ⟨_, pe_meth (pv 0) T.cl_Bakery T.m_Bakery_thrown (okM_Bakery_thrown T hP) (hr.mono (by decide)) T.b_Bakery_thrown .nil (passes_call (takes_of rfl rfl rfl rfl) (fun _ _ _ _ h => h)) (pa_cons (pv 1) pa_nil), ?_⟩
        exact body_m (ev_var rfl) (by decide) (ea_cons (ev_var rfl) ea_nil) (hBG.mono x0) (fun G hB => so_day hB hz) qo qx
      · obtain ⟨cc, tt, aa, bb, ii⟩ := W5
        refine lam_calD (N := ["_law_a", "_law_bakery", "_law_number"]) (p := "_law_a") (fr := ["_law_bakery", "_law_number"]) (k := 10) (S0 := G) (clo_frz (js := [7, 11]) fz (eG _ _ aa) (eG _ _ bb) rfl (fun y hy e => ndef_free (sc := defScope s_law) (fr := []) (by decide +kernel) y hy e) (ndef_fr (sc := defScope s_law) (by decide +kernel)) rfl) (fz.ex_ _ _ (eG _ _ ii)) (nscope_by (by dsimp only; decide +kernel)) backsX (fun _ _ u s o n ho hs => BindsTo.of_defaults (T := tt) rfl ho hs rfl rfl) (fun vs H Q E q => q.1) fz.ex_ (cl_none fz (fun y hy e => ndef_free (sc := defScope s_law) (fr := []) (by decide +kernel) y hy e)) (fun A outer s H Q E hr eS x0 q => ?_)
        obtain ⟨_, qo, qx⟩ := q
        refine ⟨_, pe_meth (pv 1) T.cl_Bakery T.m_Bakery_shelf (okM_Bakery_shelf T hP) (hr.mono (by decide)) T.b_Bakery_shelf .nil (passes_call (takes_of rfl rfl rfl rfl) (fun _ _ _ _ h => h)) (pa_cons (pv 2) pa_nil), ?_⟩
        exact body_m (ev_var rfl) (by decide) (ea_cons (ev_var rfl) ea_nil) (hBG.mono x0) (fun G hB => so_shelf hB hz) qo qx
      · obtain ⟨cc, tt, aa, bb, ii⟩ := W6
        refine lam_calD (N := ["_law_b", "_law_bakery", "_law_number"]) (p := "_law_b") (fr := ["_law_bakery", "_law_number"]) (k := 10) (S0 := G) (clo_frz (js := [7, 11]) fz (eG _ _ aa) (eG _ _ bb) rfl (fun y hy e => ndef_free (sc := defScope s_law) (fr := []) (by decide +kernel) y hy e) (ndef_fr (sc := defScope s_law) (by decide +kernel)) rfl) (fz.ex_ _ _ (eG _ _ ii)) (nscope_by (by dsimp only; decide +kernel)) backsX (fun _ _ u s o n ho hs => BindsTo.of_defaults (T := tt) rfl ho hs rfl rfl) (fun vs H Q E q => q.1) fz.ex_ (cl_none fz (fun y hy e => ndef_free (sc := defScope s_law) (fr := []) (by decide +kernel) y hy e)) (fun A outer s H Q E hr eS x0 q => ?_)
        obtain ⟨_, qo, qx⟩ := q
        refine ⟨_, pe_meth (pv 1) T.cl_Bakery T.m_Bakery_totals (okM_Bakery_totals T hP) (hr.mono (by decide)) T.b_Bakery_totals .nil (passes_call (takes_of rfl rfl rfl rfl) (fun _ _ _ _ h => h)) (pa_cons (pv 2) pa_nil), ?_⟩
        exact body_m (ev_var rfl) (by decide) (ea_cons (ev_var rfl) ea_nil) (hBG.mono x0) (fun G hB => so_tot hB hz) qo qx
      · obtain ⟨cc, aa, bb⟩ := W7
        refine lam_cal (N := ["_law_bakery", "_law_number"]) (ps := []) (fr := ["_law_bakery", "_law_number"]) (k := 10) (S0 := G) (clo_frz (js := [7, 11]) fz (eG _ _ aa) (eG _ _ bb) rfl (fun y hy e => ndef_free (sc := defScope s_law) (fr := []) (by decide +kernel) y hy e) (ndef_fr (sc := defScope s_law) (by decide +kernel)) rfl) (nscope_by (by dsimp only; decide +kernel)) backsX (fun _ _ us hl => match us, hl with | [], _ => rfl) (fun vs H Q E q => by rw [q.1]; rfl) fz.ex_ (cl_none fz (fun y hy e => ndef_free (sc := defScope s_law) (fr := []) (by decide +kernel) y hy e)) (fun A outer s H vs Q E hr eS x0 q => ?_)
        obtain ⟨rfl, qo, qx⟩ := q
        refine ⟨_, pe_call (okM_next_missed T hP) (hr.mono (by decide)) (by rfl) T.g_next_missed T.F_next_missed.kp T.b_next_missed .nil (passes_call (takes_of rfl rfl rfl rfl) (fun _ _ _ _ h => h)) (pa_cons (pv 0) (pa_cons (pv 1) pa_nil)), ?_⟩
        exact body_f (ea_cons (ev_var rfl) (ea_cons (ev_var rfl) ea_nil)) (hBG.mono x0) (fun G hB => so_loss hB hz) qo qx
      · obtain ⟨cc, tt, aa, bb, ii⟩ := W8
        refine lam_calD (N := ["_law_a", "_law_bakery", "_law_number"]) (p := "_law_a") (fr := ["_law_bakery", "_law_number"]) (k := 10) (S0 := G) (clo_frz (js := [7, 11]) fz (eG _ _ aa) (eG _ _ bb) rfl (fun y hy e => ndef_free (sc := defScope s_law) (fr := []) (by decide +kernel) y hy e) (ndef_fr (sc := defScope s_law) (by decide +kernel)) rfl) (fz.ex_ _ _ (eG _ _ ii)) (nscope_by (by dsimp only; decide +kernel)) backsX (fun _ _ u s o n ho hs => BindsTo.of_defaults (T := tt) rfl ho hs rfl rfl) (fun vs H Q E q => q.1) fz.ex_ (cl_none fz (fun y hy e => ndef_free (sc := defScope s_law) (fr := []) (by decide +kernel) y hy e)) (fun A outer s H Q E hr eS x0 q => ?_)
        obtain ⟨_, qo, qx⟩ := q
        refine ⟨_, pe_call (okM_next_thrown T hP) (hr.mono (by decide)) (by rfl) T.g_next_thrown T.F_next_thrown.kp T.b_next_thrown .nil (passes_call (takes_of rfl rfl rfl rfl) (fun _ _ _ _ h => h)) (pa_cons (pv 1) (pa_cons (pv 2) pa_nil)), ?_⟩
        exact body_f (ea_cons (ev_var rfl) (ea_cons (ev_var rfl) ea_nil)) (hBG.mono x0) (fun G hB => so_loss hB hz) qo qx
    have sE := sD.mono eE
    clear sD hqD W1 W2 W3 W4 W5 W6 W7 W8 hwD eD TD s6 hw6
    -- the choices
    refine q_asgU (eu_word (ok := decide (0 ≤ num ∧ num ≤ 1000000000000)) (et_is (et_chain (f := fun i j => decide (i ≤ j)) (g := fun i j => decide (i ≤ j)) (k := 1000000000000) ev_c (ev_var rfl) (ev_pow ⟨by decide, by decide, by decide⟩ pw12)) (by simp))) fun pw2 HF nw2 eF hwF => ?_
    have sF := sE.mono eF
    refine q_asgR fun Q fin => r_lams2 (i := 0) sF.tb fun g1 g2 q2 HG eG2 nq2 TG W1 W2 hqG => fin _ _ ?_
    have sG := sF.ext eG2 TG
    have hwG := eG2 _ _ hwF fun _ z => nomatch z
    have hqG : HG q2 = some (.lst (List.map V.ref [g1, g2])) := hqG
    clear sE sF nq2 eG2 TG hwF eF nw2
    refine q_when (b := false) (et_test (ev_outsN (n := 2) (ok := decide (0 ≤ num ∧ num ≤ 1000000000000)) (ev_var rfl) (sq_of hqG) rfl rfl (by decide) (by decide) (fun _ => rfl) (fun _ => rfl) (fun G eG Hz N fz f hf => ?_) (fun H1 e Q q => (ev_var rfl) H1 (Ex.refl _) _ fun H2 e2 => q _ H2 e2 ((e.trans e2) _ _ hwG)) (by cases decide (0 ≤ num ∧ num ≤ 1000000000000) <;> decide +kernel) (by cases decide (0 ≤ num ∧ num ≤ 1000000000000) <;> decide +kernel))) (fun hb => nomatch hb) fun _ HI eI => ?_
    · have hBG : BakAt K Z G b bs ds life i := sG.hB.mono (wn_ex.trans eG)
      simp only [List.mem_cons, List.not_mem_nil, or_false] at hf
      rcases hf with rfl | rfl
      · obtain ⟨cc, aa, bb⟩ := W1
        refine lam_cal (N := ["_law_bakery", "_law_number"]) (ps := []) (fr := ["_law_bakery", "_law_number"]) (k := 10) (S0 := G) (clo_frz (js := [7, 11]) fz (eG _ _ aa) (eG _ _ bb) rfl (fun y hy e => ndef_free (sc := defScope s_law) (fr := []) (by decide +kernel) y hy e) (ndef_fr (sc := defScope s_law) (by decide +kernel)) rfl) (nscope_by (by dsimp only; decide +kernel)) backsX (fun _ _ us hl => match us, hl with | [], _ => rfl) (fun vs H Q E q => by rw [q.1]; rfl) fz.ex_ (cl_none fz (fun y hy e => ndef_free (sc := defScope s_law) (fr := []) (by decide +kernel) y hy e)) (fun A outer s H vs Q E hr eS x0 q => ?_)
        obtain ⟨rfl, qo, qx⟩ := q
        refine ⟨_, pe_call (okM_least_life T hP) (hr.mono (by decide)) (by rfl) T.g_least_life T.F_least_life.kp T.b_least_life .nil (passes_call (takes_of rfl rfl rfl rfl) (fun _ _ _ _ h => h)) (pa_cons (pv 0) (pa_cons (pv 1) pa_nil)), ?_⟩
        exact body_f (ea_cons (ev_var rfl) (ea_cons (ev_var rfl) ea_nil)) (hBG.mono x0) (fun G hB => so_choice hB hz) qo qx
      · obtain ⟨cc, tt, aa, bb, ii⟩ := W2
        refine lam_calD (N := ["_law_a", "_law_bakery", "_law_number"]) (p := "_law_a") (fr := ["_law_bakery", "_law_number"]) (k := 10) (S0 := G) (clo_frz (js := [7, 11]) fz (eG _ _ aa) (eG _ _ bb) rfl (fun y hy e => ndef_free (sc := defScope s_law) (fr := []) (by decide +kernel) y hy e) (ndef_fr (sc := defScope s_law) (by decide +kernel)) rfl) (fz.ex_ _ _ (eG _ _ ii)) (nscope_by (by dsimp only; decide +kernel)) backsX (fun _ _ u s o n ho hs => BindsTo.of_defaults (T := tt) rfl ho hs rfl rfl) (fun vs H Q E q => q.1) fz.ex_ (cl_none fz (fun y hy e => ndef_free (sc := defScope s_law) (fr := []) (by decide +kernel) y hy e)) (fun A outer s H Q E hr eS x0 q => ?_)
        obtain ⟨_, qo, qx⟩ := q
        refine ⟨_, pe_call (okM_least_baking T hP) (hr.mono (by decide)) (by rfl) T.g_least_baking T.F_least_baking.kp T.b_least_baking .nil (passes_call (takes_of rfl rfl rfl rfl) (fun _ _ _ _ h => h)) (pa_cons (pv 1) (pa_cons (pv 2) pa_nil)), ?_⟩
        exact body_f (ea_cons (ev_var rfl) (ea_cons (ev_var rfl) ea_nil)) (hBG.mono x0) (fun G hB => so_choice hB hz) qo qx
    have sI := sG.mono eI
    clear sG hqG W1 W2 hwG
    -- the newest first
    refine q_ocE (ok := decide (0 ≤ num ∧ num ≤ 1000)) sI.tb (fun f c' H7 Hz N eN hf hc fz => ?_) (fun G' => eu_word (et_is (et_chain (f := fun i j => decide (i ≤ j)) (g := fun i j => decide (i ≤ j)) (k := 1000) ev_c (ev_var rfl) ev_c) (by simp))) fun HJ eJ TJ => ?_
    · have hBG : BakAt K Z H7 b bs ds life i := bak_ext eN (sI.hB.mono wn_ex)
      refine lam_cal (N := ["_law_bakery", "_law_number"]) (ps := []) (fr := ["_law_bakery", "_law_number"]) (k := 10) (S0 := H7) (clo_frz (js := [7, 11]) fz (hf) (hc) rfl (fun y hy e => ndef_free (sc := defScope s_law) (fr := []) (by decide +kernel) y hy e) (ndef_fr (sc := defScope s_law) (by decide +kernel)) rfl) (nscope_by (by dsimp only; decide +kernel)) backsX (fun _ _ us hl => match us, hl with | [], _ => rfl) (fun vs H Q E q => by rw [q.1]; rfl) fz.ex_ (cl_none fz (fun y hy e => ndef_free (sc := defScope s_law) (fr := []) (by decide +kernel) y hy e)) (fun A outer s H vs Q E hr eS x0 q => ?_)
      obtain ⟨rfl, qo, qx⟩ := q
      refine ⟨_, pe_call (okM_newest_first T hP) (hr.mono (by decide)) (by rfl) T.g_newest_first T.F_newest_first.kp T.b_newest_first .nil (passes_call (takes_of rfl rfl rfl rfl) (fun _ _ _ _ h => h)) (pa_cons (pv 0) (pa_cons (pv 1) pa_nil)), ?_⟩
      exact body_f (ea_cons (ev_var rfl) (ea_cons (ev_var rfl) ea_nil)) (hBG.mono x0) (fun G hB => so_newest hB hz) qo qx
    have sJ := sI.ext eJ TJ
    clear sI eJ TJ
    -- an observer, a day that is none
    refine q_pairX (K := K) (P := fun v G => ∃ o F A bl, v = .ref o ∧ ObsAt K Z G o bs ds F A bl [] ∧ bl ≠ []) (A := fun i => i = -1 ∨ i = 1000000000000000001) sJ.hs (x_obs (fun G => ea_cons (ev_var rfl) (ea_cons (ev_var rfl) ea_nil)) sJ.hb sJ.hd gd)
      ((xi_pick (K := K) (n := 2) (ns := [-1, 1000000000000000001]) (B := fun i => 0 ≤ i ∧ i < 2) (el_lst (ea_cons (ev_un ev_c ru_neg) (ea_cons (ev_op (ev_pow ⟨by decide, by decide, by decide⟩ pw18) ev_c rv_I0) ea_nil)) (by show 2 ≤ 100000; decide)) ((xi_next (A := fun i => i = 2) (fun G => ev_var rfl) (xi_ev ev_c rfl) (fun i e => by omega)).imp fun v q => ⟨q.1, by obtain ⟨i, e, q⟩ := q.2; omega⟩) (fun i q => by simpa using q)).imp fun i q => by simpa using q) fun v far HK1 HK dk1 dk2 ⟨o, F, A0, bl, ev, hO0, hbl⟩ hfar => ?_
    subst ev
    have sK := (sJ.dr dk1).dr dk2
    have hO := hO0.mono dk2.ex
    have hfar1 : far < 0 ∨ 1000000000000000000 < far := by omega
    have hfar2 : far.natAbs < 10 ^ 30 := by omega
    clear sJ hO0 dk1 dk2 hfar
    refine q_asgR fun Q fin => r_lams2 (i := 0) sK.tb fun g1 g2 q3 HL eL nq3 TL W1 W2 hqL => fin _ _ ?_
    refine q_appLam TL (ev_var rfl) hqL (by show 2 < 100000; decide) fun g3 HM eM TM W3 hqM => ?_
    have hqN : (L2.upd HM q3 (.lst ([V.ref g1, V.ref g2] ++ [V.ref g3]))) q3 = some (.lst (List.map V.ref [g1, g2, g3])) := upd_same
    have eN := extN_upd (u := .lst ([V.ref g1, V.ref g2] ++ [V.ref g3])) (ExtN.tr eL eM) nq3
    have TN := tabs_upd (u := .lst ([V.ref g1, V.ref g2] ++ [V.ref g3])) hqM TM
    have W1 := LamS.upd (u := .lst ([V.ref g1, V.ref g2] ++ [V.ref g3])) hqM (LamS.ext eM W1)
    have W2 := LamT.upd (u := .lst ([V.ref g1, V.ref g2] ++ [V.ref g3])) hqM (LamT.ext eM W2)
    have W3 := LamS.upd (u := .lst ([V.ref g1, V.ref g2] ++ [V.ref g3])) hqM W3
    generalize L2.upd HM q3 (.lst ([V.ref g1, V.ref g2] ++ [V.ref g3])) = HN at hqN eN TN W1 W2 W3 ⊢
    have sN := sK.ext eN TN
    have hON := obs_ext (extN_wn eN) hO
    clear sK hO eN TN hqM hqL eL eM TL TM
    refine q_when (b := false) (et_is (et_or (et_test (ev_outsN (n := 3) (ok := false) (ev_var rfl) (sq_of hqN) rfl rfl (by decide) (by decide) (fun _ => rfl) (fun _ => rfl) (fun G eG Hz N fz f hf => ?_) (fun H1 e Q q => (eu_tup (ea_cons ev_c ea_nil) (by show 1 ≤ 100000; decide)) H1 (Ex.refl _) Q fun p H2 _ e2 h2 => q p H2 e2 h2) (by decide +kernel) (by decide +kernel))) fun _ => et_test (ev_neNil (el_recsP (ev_var rfl) (hON.mono wn_ex)) (el_lst ea_nil (by show 0 ≤ 100000; decide)) rfl)) (by rfl)) (fun hb => nomatch hb) fun _ HO eO => ?_
    · have hOG : ObsAt K Z G o bs ds F A0 bl [] := hON.mono (wn_ex.trans eG)
      simp only [List.mem_cons, List.not_mem_nil, or_false] at hf
      rcases hf with rfl | rfl | rfl
      · obtain ⟨cc, aa, bb⟩ := W1
        refine lam_cal (N := ["_law_far", "_law_observer"]) (ps := []) (fr := ["_law_far", "_law_observer"]) (k := 10) (S0 := G) (clo_frz (js := [10, 12]) fz (eG _ _ aa) (eG _ _ bb) rfl (fun y hy e => ndef_free (sc := defScope s_law) (fr := []) (by decide +kernel) y hy e) (ndef_fr (sc := defScope s_law) (by decide +kernel)) rfl) (nscope_by (by dsimp only; decide +kernel)) backsX (fun _ _ us hl => match us, hl with | [], _ => rfl) (fun vs H Q E q => by rw [q.1]; rfl) fz.ex_ (cl_none fz (fun y hy e => ndef_free (sc := defScope s_law) (fr := []) (by decide +kernel) y hy e)) (fun A outer s H vs Q E hr eS x0 q => ?_)
        obtain ⟨rfl, qo, qx⟩ := q
        refine ⟨_, pe_meth (pv 1) T.cl_LifeObserver T.m_LifeObserver_see_sold (okF_LifeObserver_see_sold T hP) (hr.mono (by decide)) T.b_LifeObserver_see_sold .nil (passes_call (takes_of rfl rfl rfl rfl) (fun _ _ _ _ h => h)) (pa_cons (pv 0) (pa_cons pe_int pa_nil)), ?_⟩
        exact body_s (ev_var rfl) (by decide) (ea_cons (ev_var rfl) (ea_cons ev_c ea_nil)) (hOG.mono x0) hfar1 hfar2 hbl (qx rfl)
      · obtain ⟨cc, tt, aa, bb, ii⟩ := W2
        refine lam_calD (N := ["_law_a", "_law_far", "_law_observer"]) (p := "_law_a") (fr := ["_law_far", "_law_observer"]) (k := 10) (S0 := G) (clo_frz (js := [10, 12]) fz (eG _ _ aa) (eG _ _ bb) rfl (fun y hy e => ndef_free (sc := defScope s_law) (fr := []) (by decide +kernel) y hy e) (ndef_fr (sc := defScope s_law) (by decide +kernel)) rfl) (fz.ex_ _ _ (eG _ _ ii)) (nscope_by (by dsimp only; decide +kernel)) backsX (fun _ _ u s o n ho hs => BindsTo.of_defaults (T := tt) rfl ho hs rfl rfl) (fun vs H Q E q => q.1) fz.ex_ (cl_none fz (fun y hy e => ndef_free (sc := defScope s_law) (fr := []) (by decide +kernel) y hy e)) (fun A outer s H Q E hr eS x0 q => ?_)
        obtain ⟨_, qo, qx⟩ := q
        refine ⟨_, pe_meth (pv 2) T.cl_LifeObserver T.m_LifeObserver_see_thrown (okF_LifeObserver_see_thrown T hP) (hr.mono (by decide)) T.b_LifeObserver_see_thrown .nil (passes_call (takes_of rfl rfl rfl rfl) (fun _ _ _ _ h => h)) (pa_cons (pv 1) (pa_cons pe_int pa_nil)), ?_⟩
        exact body_s (ev_var rfl) (by decide) (ea_cons (ev_var rfl) (ea_cons ev_c ea_nil)) (hOG.mono x0) hfar1 hfar2 hbl (qx rfl)
      · obtain ⟨cc, aa, bb⟩ := W3
        refine lam_cal (N := ["_law_far", "_law_observer"]) (ps := []) (fr := ["_law_far", "_law_observer"]) (k := 10) (S0 := G) (clo_frz (js := [10, 12]) fz (eG _ _ aa) (eG _ _ bb) rfl (fun y hy e => ndef_free (sc := defScope s_law) (fr := []) (by decide +kernel) y hy e) (ndef_fr (sc := defScope s_law) (by decide +kernel)) rfl) (nscope_by (by dsimp only; decide +kernel)) backsX (fun _ _ us hl => match us, hl with | [], _ => rfl) (fun vs H Q E q => by rw [q.1]; rfl) fz.ex_ (cl_none fz (fun y hy e => ndef_free (sc := defScope s_law) (fr := []) (by decide +kernel) y hy e)) (fun A outer s H vs Q E hr eS x0 q => ?_)
        obtain ⟨rfl, qo, qx⟩ := q
        refine ⟨_, pe_meth (pv 1) T.cl_LifeObserver T.m_LifeObserver_see_stock (okF_LifeObserver_see_stock T hP) (hr.mono (by decide)) T.b_LifeObserver_see_stock .nil (passes_call (takes_of rfl rfl rfl rfl) (fun _ _ _ _ h => h)) (pa_cons (pv 0) (pa_cons pe_int pa_nil)), ?_⟩
        exact body_s (ev_var rfl) (by decide) (ea_cons (ev_var rfl) (ea_cons ev_c ea_nil)) (hOG.mono x0) hfar1 hfar2 hbl (qx rfl)
    have sO := sN.mono eO
    clear sN hqN W1 W2 W3
    -- an observer of amounts that do not fit
    refine s_bkE sO.tb (fun f c' H7 Hz N eN hf hc fz => ?_) (fun G' => eu_tup (ea_cons ev_c (ea_cons ev_c (ea_cons (ev_un ev_c ru_neg) ea_nil))) (by show 3 ≤ 100000; decide)) fun HP eP TP => ⟨⟨_, _, _, _, _, _, _, _, _, _, _, _, rfl⟩, hs_ext eP sO.hs, TP⟩
    have hbx : SqT K H7 pb (bs.map V.int) := ex_t ((extN_nt eN).trans nt_ex) (nt_t (ex_t wn_ex sO.hb))
    have hdx : SqT K H7 pd (ds.map V.int) := ex_t ((extN_nt eN).trans nt_ex) (nt_t (ex_t wn_ex sO.hd))
    refine lam_cal (N := ["_law_bakes", "_law_demands"]) (ps := []) (fr := ["_law_bakes", "_law_demands"]) (k := 10) (S0 := H7) (clo_frz (js := [8, 9]) fz (hf) (hc) rfl (fun y hy e => ndef_free (sc := defScope s_law) (fr := []) (by decide +kernel) y hy e) (ndef_fr (sc := defScope s_law) (by decide +kernel)) rfl) (nscope_by (by dsimp only; decide +kernel)) backsX (fun _ _ us hl => match us, hl with | [], _ => rfl) (fun vs H Q E q => by rw [q.1]; rfl) fz.ex_ (cl_none fz (fun y hy e => ndef_free (sc := defScope s_law) (fr := []) (by decide +kernel) y hy e)) (fun A outer s H vs Q E hr eS x0 q => ?_)
    obtain ⟨rfl, rr⟩ := q
    refine ⟨_, pe_make T.mk_LifeObserver (okM_LifeObserver___init__ T hP) (hr.mono (by decide)) (by rfl) T.g_LifeObserver T.b_LifeObserver___init__ .nil (passes_call (takes_of rfl rfl rfl rfl) (fun _ _ _ _ h => h)) (pa_cons (pv 0) (pa_cons (pe_op op_catA (pv 1) (pe_tup (pa_cons pe_int pa_nil))) pa_nil)), ?_⟩
    exact body_k (ev_var rfl) (ev_var rfl) (ex_t x0 hbx) (ex_t x0 hdx) gd lb3 rr
end Sw
namespace Sw
open PySem PySem.Spec PyProof.Rows L2 Evl
theorem all_mk {l : PySem.W.OpenLaw} {w : World} {K : PySem.W.Frag} {h : Heap} {mg : Str → Option Value} {fa c_Course c_Bakery c_LifeObserver c_LoafError c_InvalidBakery c_InvalidNumber c_InvalidDays c_Contradiction f_InvalidBakery___init__ ka_InvalidBakery___init__ cc_InvalidBakery___init__ f_InvalidDays___init__ ka_InvalidDays___init__ cc_InvalidDays___init__ f_check_number f_count_keepable f_sum_repeated f_Course___init__ f_Course_stock_at f_Course_sales_on f_Course_sales_before f_Course_loaves_at f_Course_find_settled f_Course_sum_settled_round f_Course__play_round f_Course__stocks_in f_Course__misses_in f_Course__count_growing f_check_amounts f_check_life f_check_bakery f_Bakery___init__ f_Bakery_bakes pr_Bakery_bakes f_Bakery_demands pr_Bakery_demands f_Bakery_life pr_Bakery_life f_Bakery_settled_day pr_Bakery_settled_day f_Bakery_long_run pr_Bakery_long_run f_Bakery_with_life f_Bakery_baking_more f_Bakery_stock f_Bakery_sold f_Bakery_missed f_Bakery_thrown f_Bakery_totals f_Bakery_shelf f_sell_in_order f_newest_first f_find_loss f_next_missed f_next_thrown f_least_life f_least_baking f_LifeObserver___init__ f_LifeObserver_records pr_LifeObserver_records f_LifeObserver_see_sold f_LifeObserver_see_thrown f_LifeObserver_see_stock f_LifeObserver__accept f__law_mix f__law_next f__law_error f__law_amounts f__law_parts f_law ka_law tb_law : Addr} (X : K.In h) (G : h.Ns mainGlobals mg) (hfa : mg "law" = some (.ref fa))
    {tk_cv_Bakery_MAX_DAYS : Tok}
    {tk_cn_Bakery_MAX_LIFE : Tok}
    {tk_cv_Bakery_MAX_LIFE : Tok}
    {t_MOST_LOAVES : Tok}
    {t_LAST_DAY : Tok}
    {t_MOST_NEWEST_DAYS : Tok}
    {t_MOST_MISSED : Tok}
    {t_MISSED : Tok}
    {t_THROWN : Tok}
    {od_InvalidBakery___init__ an_InvalidBakery___init__ : Option Addr} {sl_InvalidBakery___init__ : Array (Option Value)} {oc_InvalidBakery___init__ kV_InvalidBakery___init__ dc_InvalidBakery___init__ pm_InvalidBakery___init__ ct_InvalidBakery___init__ : Value}
    {oe_InvalidBakery___init__ ol_InvalidBakery___init__ : Value} {oo_InvalidBakery___init__ om_InvalidBakery___init__ : Option Addr} {vc_InvalidBakery___init__ : Array Value} {os_InvalidBakery___init__ ot_InvalidBakery___init__ : Array (Option Value)} {file_InvalidBakery___init__ : Str} {tf_InvalidBakery___init__ : Tok}
    {nm_InvalidBakery q_InvalidBakery : Str} {N_InvalidBakery : Addr} {bs_InvalidBakery bm_InvalidBakery : List Value} {sn_InvalidBakery : List Str} {sub_InvalidBakery : List Value} {ab_InvalidBakery : Bool} {col_InvalidBakery : Option Bool} {dd_InvalidBakery : Option Addr} {m0_InvalidBakery m1_InvalidBakery m2_InvalidBakery m3_InvalidBakery m5_InvalidBakery : Option Value}
    {od_InvalidDays___init__ an_InvalidDays___init__ : Option Addr} {sl_InvalidDays___init__ : Array (Option Value)} {oc_InvalidDays___init__ kV_InvalidDays___init__ dc_InvalidDays___init__ pm_InvalidDays___init__ ct_InvalidDays___init__ : Value}
    {oe_InvalidDays___init__ ol_InvalidDays___init__ : Value} {oo_InvalidDays___init__ om_InvalidDays___init__ : Option Addr} {vc_InvalidDays___init__ : Array Value} {os_InvalidDays___init__ ot_InvalidDays___init__ : Array (Option Value)} {file_InvalidDays___init__ : Str} {tf_InvalidDays___init__ : Tok}
    {nm_InvalidDays q_InvalidDays : Str} {N_InvalidDays : Addr} {bs_InvalidDays bm_InvalidDays : List Value} {sn_InvalidDays : List Str} {sub_InvalidDays : List Value} {ab_InvalidDays : Bool} {col_InvalidDays : Option Bool} {dd_InvalidDays : Option Addr} {m0_InvalidDays m1_InvalidDays m2_InvalidDays m3_InvalidDays m5_InvalidDays : Option Value}
    {od_check_number an_check_number : Option Addr} {sl_check_number : Array (Option Value)} {oc_check_number kV_check_number dc_check_number pm_check_number cd_check_number ct_check_number : Value}
    {od_count_keepable an_count_keepable : Option Addr} {sl_count_keepable : Array (Option Value)} {oc_count_keepable kV_count_keepable dc_count_keepable pm_count_keepable cd_count_keepable ct_count_keepable : Value}
    {od_sum_repeated an_sum_repeated : Option Addr} {sl_sum_repeated : Array (Option Value)} {oc_sum_repeated kV_sum_repeated dc_sum_repeated pm_sum_repeated cd_sum_repeated ct_sum_repeated : Value}
    {od_Course___init__ an_Course___init__ : Option Addr} {sl_Course___init__ : Array (Option Value)} {oc_Course___init__ kV_Course___init__ dc_Course___init__ pm_Course___init__ cd_Course___init__ ct_Course___init__ : Value}
    {od_Course_stock_at an_Course_stock_at : Option Addr} {sl_Course_stock_at : Array (Option Value)} {oc_Course_stock_at kV_Course_stock_at dc_Course_stock_at pm_Course_stock_at cd_Course_stock_at ct_Course_stock_at : Value}
    {od_Course_sales_on an_Course_sales_on : Option Addr} {sl_Course_sales_on : Array (Option Value)} {oc_Course_sales_on kV_Course_sales_on dc_Course_sales_on pm_Course_sales_on cd_Course_sales_on ct_Course_sales_on : Value}
    {od_Course_sales_before an_Course_sales_before : Option Addr} {sl_Course_sales_before : Array (Option Value)} {oc_Course_sales_before kV_Course_sales_before dc_Course_sales_before pm_Course_sales_before cd_Course_sales_before ct_Course_sales_before : Value}
    {od_Course_loaves_at an_Course_loaves_at : Option Addr} {sl_Course_loaves_at : Array (Option Value)} {oc_Course_loaves_at kV_Course_loaves_at dc_Course_loaves_at pm_Course_loaves_at cd_Course_loaves_at ct_Course_loaves_at : Value}
    {od_Course_find_settled an_Course_find_settled : Option Addr} {sl_Course_find_settled : Array (Option Value)} {oc_Course_find_settled kV_Course_find_settled dc_Course_find_settled pm_Course_find_settled cd_Course_find_settled ct_Course_find_settled : Value}
    {od_Course_sum_settled_round an_Course_sum_settled_round : Option Addr} {sl_Course_sum_settled_round : Array (Option Value)} {oc_Course_sum_settled_round kV_Course_sum_settled_round dc_Course_sum_settled_round pm_Course_sum_settled_round cd_Course_sum_settled_round ct_Course_sum_settled_round : Value}
    {od_Course__play_round an_Course__play_round : Option Addr} {sl_Course__play_round : Array (Option Value)} {oc_Course__play_round kV_Course__play_round dc_Course__play_round pm_Course__play_round cd_Course__play_round ct_Course__play_round : Value}
    {od_Course__stocks_in an_Course__stocks_in : Option Addr} {sl_Course__stocks_in : Array (Option Value)} {oc_Course__stocks_in kV_Course__stocks_in dc_Course__stocks_in pm_Course__stocks_in cd_Course__stocks_in ct_Course__stocks_in : Value}
    {od_Course__misses_in an_Course__misses_in : Option Addr} {sl_Course__misses_in : Array (Option Value)} {oc_Course__misses_in kV_Course__misses_in dc_Course__misses_in pm_Course__misses_in cd_Course__misses_in ct_Course__misses_in : Value}
    {od_Course__count_growing an_Course__count_growing : Option Addr} {sl_Course__count_growing : Array (Option Value)} {oc_Course__count_growing kV_Course__count_growing dc_Course__count_growing pm_Course__count_growing cd_Course__count_growing ct_Course__count_growing : Value}
    {od_check_amounts an_check_amounts : Option Addr} {sl_check_amounts : Array (Option Value)} {oc_check_amounts kV_check_amounts dc_check_amounts pm_check_amounts cd_check_amounts ct_check_amounts : Value}
    {od_check_life an_check_life : Option Addr} {sl_check_life : Array (Option Value)} {oc_check_life kV_check_life dc_check_life pm_check_life cd_check_life ct_check_life : Value}
    {od_check_bakery an_check_bakery : Option Addr} {sl_check_bakery : Array (Option Value)} {oc_check_bakery kV_check_bakery dc_check_bakery pm_check_bakery cd_check_bakery ct_check_bakery : Value}
    {od_Bakery___init__ an_Bakery___init__ : Option Addr} {sl_Bakery___init__ : Array (Option Value)} {oc_Bakery___init__ kV_Bakery___init__ dc_Bakery___init__ pm_Bakery___init__ cd_Bakery___init__ ct_Bakery___init__ : Value}
    {od_Bakery_bakes an_Bakery_bakes : Option Addr} {sl_Bakery_bakes : Array (Option Value)} {oc_Bakery_bakes kV_Bakery_bakes dc_Bakery_bakes pm_Bakery_bakes cd_Bakery_bakes ct_Bakery_bakes : Value}
    {rs_Bakery_bakes : List Value}
    {od_Bakery_demands an_Bakery_demands : Option Addr} {sl_Bakery_demands : Array (Option Value)} {oc_Bakery_demands kV_Bakery_demands dc_Bakery_demands pm_Bakery_demands cd_Bakery_demands ct_Bakery_demands : Value}
    {rs_Bakery_demands : List Value}
    {od_Bakery_life an_Bakery_life : Option Addr} {sl_Bakery_life : Array (Option Value)} {oc_Bakery_life kV_Bakery_life dc_Bakery_life pm_Bakery_life cd_Bakery_life ct_Bakery_life : Value}
    {rs_Bakery_life : List Value}
    {od_Bakery_settled_day an_Bakery_settled_day : Option Addr} {sl_Bakery_settled_day : Array (Option Value)} {oc_Bakery_settled_day kV_Bakery_settled_day dc_Bakery_settled_day pm_Bakery_settled_day cd_Bakery_settled_day ct_Bakery_settled_day : Value}
    {rs_Bakery_settled_day : List Value}
    {od_Bakery_long_run an_Bakery_long_run : Option Addr} {sl_Bakery_long_run : Array (Option Value)} {oc_Bakery_long_run kV_Bakery_long_run dc_Bakery_long_run pm_Bakery_long_run cd_Bakery_long_run ct_Bakery_long_run : Value}
    {rs_Bakery_long_run : List Value}
    {od_Bakery_with_life an_Bakery_with_life : Option Addr} {sl_Bakery_with_life : Array (Option Value)} {oc_Bakery_with_life kV_Bakery_with_life dc_Bakery_with_life pm_Bakery_with_life cd_Bakery_with_life ct_Bakery_with_life : Value}
    {od_Bakery_baking_more an_Bakery_baking_more : Option Addr} {sl_Bakery_baking_more : Array (Option Value)} {oc_Bakery_baking_more kV_Bakery_baking_more dc_Bakery_baking_more pm_Bakery_baking_more cd_Bakery_baking_more ct_Bakery_baking_more : Value}
    {od_Bakery_stock an_Bakery_stock : Option Addr} {sl_Bakery_stock : Array (Option Value)} {oc_Bakery_stock kV_Bakery_stock dc_Bakery_stock pm_Bakery_stock cd_Bakery_stock ct_Bakery_stock : Value}
    {od_Bakery_sold an_Bakery_sold : Option Addr} {sl_Bakery_sold : Array (Option Value)} {oc_Bakery_sold kV_Bakery_sold dc_Bakery_sold pm_Bakery_sold cd_Bakery_sold ct_Bakery_sold : Value}
    {od_Bakery_missed an_Bakery_missed : Option Addr} {sl_Bakery_missed : Array (Option Value)} {oc_Bakery_missed kV_Bakery_missed dc_Bakery_missed pm_Bakery_missed cd_Bakery_missed ct_Bakery_missed : Value}
    {od_Bakery_thrown an_Bakery_thrown : Option Addr} {sl_Bakery_thrown : Array (Option Value)} {oc_Bakery_thrown kV_Bakery_thrown dc_Bakery_thrown pm_Bakery_thrown cd_Bakery_thrown ct_Bakery_thrown : Value}
    {od_Bakery_totals an_Bakery_totals : Option Addr} {sl_Bakery_totals : Array (Option Value)} {oc_Bakery_totals kV_Bakery_totals dc_Bakery_totals pm_Bakery_totals cd_Bakery_totals ct_Bakery_totals : Value}
    {od_Bakery_shelf an_Bakery_shelf : Option Addr} {sl_Bakery_shelf : Array (Option Value)} {oc_Bakery_shelf kV_Bakery_shelf dc_Bakery_shelf pm_Bakery_shelf cd_Bakery_shelf ct_Bakery_shelf : Value}
    {od_sell_in_order an_sell_in_order : Option Addr} {sl_sell_in_order : Array (Option Value)} {oc_sell_in_order kV_sell_in_order dc_sell_in_order pm_sell_in_order cd_sell_in_order ct_sell_in_order : Value}
    {od_newest_first an_newest_first : Option Addr} {sl_newest_first : Array (Option Value)} {oc_newest_first kV_newest_first dc_newest_first pm_newest_first cd_newest_first ct_newest_first : Value}
    {od_find_loss an_find_loss : Option Addr} {sl_find_loss : Array (Option Value)} {oc_find_loss kV_find_loss dc_find_loss pm_find_loss cd_find_loss ct_find_loss : Value}
    {od_next_missed an_next_missed : Option Addr} {sl_next_missed : Array (Option Value)} {oc_next_missed kV_next_missed dc_next_missed pm_next_missed cd_next_missed ct_next_missed : Value}
    {od_next_thrown an_next_thrown : Option Addr} {sl_next_thrown : Array (Option Value)} {oc_next_thrown kV_next_thrown dc_next_thrown pm_next_thrown cd_next_thrown ct_next_thrown : Value}
    {od_least_life an_least_life : Option Addr} {sl_least_life : Array (Option Value)} {oc_least_life kV_least_life dc_least_life pm_least_life cd_least_life ct_least_life : Value}
    {od_least_baking an_least_baking : Option Addr} {sl_least_baking : Array (Option Value)} {oc_least_baking kV_least_baking dc_least_baking pm_least_baking cd_least_baking ct_least_baking : Value}
    {od_LifeObserver___init__ an_LifeObserver___init__ : Option Addr} {sl_LifeObserver___init__ : Array (Option Value)} {oc_LifeObserver___init__ kV_LifeObserver___init__ dc_LifeObserver___init__ pm_LifeObserver___init__ cd_LifeObserver___init__ ct_LifeObserver___init__ : Value}
    {od_LifeObserver_records an_LifeObserver_records : Option Addr} {sl_LifeObserver_records : Array (Option Value)} {oc_LifeObserver_records kV_LifeObserver_records dc_LifeObserver_records pm_LifeObserver_records cd_LifeObserver_records ct_LifeObserver_records : Value}
    {rs_LifeObserver_records : List Value}
    {od_LifeObserver_see_sold an_LifeObserver_see_sold : Option Addr} {sl_LifeObserver_see_sold : Array (Option Value)} {oc_LifeObserver_see_sold kV_LifeObserver_see_sold dc_LifeObserver_see_sold pm_LifeObserver_see_sold cd_LifeObserver_see_sold ct_LifeObserver_see_sold : Value}
    {od_LifeObserver_see_thrown an_LifeObserver_see_thrown : Option Addr} {sl_LifeObserver_see_thrown : Array (Option Value)} {oc_LifeObserver_see_thrown kV_LifeObserver_see_thrown dc_LifeObserver_see_thrown pm_LifeObserver_see_thrown cd_LifeObserver_see_thrown ct_LifeObserver_see_thrown : Value}
    {od_LifeObserver_see_stock an_LifeObserver_see_stock : Option Addr} {sl_LifeObserver_see_stock : Array (Option Value)} {oc_LifeObserver_see_stock kV_LifeObserver_see_stock dc_LifeObserver_see_stock pm_LifeObserver_see_stock cd_LifeObserver_see_stock ct_LifeObserver_see_stock : Value}
    {od_LifeObserver__accept an_LifeObserver__accept : Option Addr} {sl_LifeObserver__accept : Array (Option Value)} {oc_LifeObserver__accept kV_LifeObserver__accept dc_LifeObserver__accept pm_LifeObserver__accept cd_LifeObserver__accept ct_LifeObserver__accept : Value}
    {od__law_mix an__law_mix : Option Addr} {sl__law_mix : Array (Option Value)} {oc__law_mix kV__law_mix dc__law_mix pm__law_mix cd__law_mix ct__law_mix : Value}
    {od__law_next an__law_next : Option Addr} {sl__law_next : Array (Option Value)} {oc__law_next kV__law_next dc__law_next pm__law_next cd__law_next ct__law_next : Value}
    {od__law_error an__law_error : Option Addr} {sl__law_error : Array (Option Value)} {oc__law_error kV__law_error dc__law_error pm__law_error cd__law_error ct__law_error : Value}
    {od__law_amounts an__law_amounts : Option Addr} {sl__law_amounts : Array (Option Value)} {oc__law_amounts kV__law_amounts dc__law_amounts pm__law_amounts cd__law_amounts ct__law_amounts : Value}
    {od__law_parts an__law_parts : Option Addr} {sl__law_parts : Array (Option Value)} {oc__law_parts kV__law_parts dc__law_parts pm__law_parts cd__law_parts ct__law_parts : Value}
    {od_law an_law : Option Addr} {sl_law : Array (Option Value)} {oc_law kV_law dc_law pm_law ct_law : Value}
    {oe_law : Value} {oo_law : Option Addr} {vc_law : Array Value} {os_law : Array (Option Value)}
    (g_Course : PySem.W.nsIn K mainGlobals "Course" = some (some (.ref c_Course)))
    (pg_Course : PySem.W.plainGet K c_Course Str.empty = true)
    (hd_Course : PySem.W.hasDictIn K c_Course = true)
    (po_Course : PySem.W.plainOver K c_Course = true)
    (sa_Course : PySem.W.findIn K (.ref c_Course) "__setattr__" = some (some (.builtin "object.__setattr__")))
    (mk_Course : PySem.W.makesIn K c_Course = true)
    (kc_Course : PySem.W.keepIn K (.ref c_Course) = true)
    (g_Bakery : PySem.W.nsIn K mainGlobals "Bakery" = some (some (.ref c_Bakery)))
    (pg_Bakery : PySem.W.plainGet K c_Bakery Str.empty = true)
    (hd_Bakery : PySem.W.hasDictIn K c_Bakery = true)
    (po_Bakery : PySem.W.plainOver K c_Bakery = true)
    (sa_Bakery : PySem.W.findIn K (.ref c_Bakery) "__setattr__" = some (some (.builtin "object.__setattr__")))
    (mk_Bakery : PySem.W.makesIn K c_Bakery = true)
    (kc_Bakery : PySem.W.keepIn K (.ref c_Bakery) = true)
    (g_LifeObserver : PySem.W.nsIn K mainGlobals "LifeObserver" = some (some (.ref c_LifeObserver)))
    (pg_LifeObserver : PySem.W.plainGet K c_LifeObserver Str.empty = true)
    (hd_LifeObserver : PySem.W.hasDictIn K c_LifeObserver = true)
    (po_LifeObserver : PySem.W.plainOver K c_LifeObserver = true)
    (sa_LifeObserver : PySem.W.findIn K (.ref c_LifeObserver) "__setattr__" = some (some (.builtin "object.__setattr__")))
    (mk_LifeObserver : PySem.W.makesIn K c_LifeObserver = true)
    (kc_LifeObserver : PySem.W.keepIn K (.ref c_LifeObserver) = true)
    (na_Course__bakes : PySem.W.findIn K (.ref c_Course) "_bakes" = some none)
    (na_Course__demands : PySem.W.findIn K (.ref c_Course) "_demands" = some none)
    (na_Course__keepable : PySem.W.findIn K (.ref c_Course) "_keepable" = some none)
    (na_Course__gain : PySem.W.findIn K (.ref c_Course) "_gain" = some none)
    (na_Course__first_end : PySem.W.findIn K (.ref c_Course) "_first_end" = some none)
    (na_Course__full_end : PySem.W.findIn K (.ref c_Course) "_full_end" = some none)
    (na_Course__first_misses : PySem.W.findIn K (.ref c_Course) "_first_misses" = some none)
    (na_Course__later_misses : PySem.W.findIn K (.ref c_Course) "_later_misses" = some none)
    (na_Bakery__bakes : PySem.W.findIn K (.ref c_Bakery) "_bakes" = some none)
    (na_Bakery__demands : PySem.W.findIn K (.ref c_Bakery) "_demands" = some none)
    (na_Bakery__life : PySem.W.findIn K (.ref c_Bakery) "_life" = some none)
    (na_Bakery_course : PySem.W.findIn K (.ref c_Bakery) "course" = some none)
    (na_Bakery__settled_day : PySem.W.findIn K (.ref c_Bakery) "_settled_day" = some none)
    (na_Bakery__long_run : PySem.W.findIn K (.ref c_Bakery) "_long_run" = some none)
    (rd_Bakery : PySem.W.readsIn K c_Bakery (.type "type") = true)
    (gt_Bakery : PySem.W.specialIn K (.ref c_Bakery) "__getattribute__" = some (some (.builtin "type.__getattribute__")))
    (cv_Bakery_MAX_DAYS : PySem.W.findCls K (.ref c_Bakery) (.type "type") "MAX_DAYS" = some (.val (.int 24 tk_cv_Bakery_MAX_DAYS)))
    (cn_Bakery_MAX_LIFE : PySem.W.findIn K (.ref c_Bakery) "MAX_LIFE" = some (some (.int 30 tk_cn_Bakery_MAX_LIFE)))
    (sp_cn_Bakery_MAX_LIFE : PySem.W.specialIn K (.int 30 tk_cn_Bakery_MAX_LIFE) "__get__" = some none)
    (cv_Bakery_MAX_LIFE : PySem.W.findCls K (.ref c_Bakery) (.type "type") "MAX_LIFE" = some (.val (.int 30 tk_cv_Bakery_MAX_LIFE)))
    (na_LifeObserver__fitting : PySem.W.findIn K (.ref c_LifeObserver) "_fitting" = some none)
    (na_LifeObserver__accepted : PySem.W.findIn K (.ref c_LifeObserver) "_accepted" = some none)
    (g_MOST_LOAVES : PySem.W.nsIn K mainGlobals "MOST_LOAVES" = some (some (.int 1000000000 t_MOST_LOAVES)))
    (g_LAST_DAY : PySem.W.nsIn K mainGlobals "LAST_DAY" = some (some (.int 1000000000000000000 t_LAST_DAY)))
    (g_MOST_NEWEST_DAYS : PySem.W.nsIn K mainGlobals "MOST_NEWEST_DAYS" = some (some (.int 1000 t_MOST_NEWEST_DAYS)))
    (g_MOST_MISSED : PySem.W.nsIn K mainGlobals "MOST_MISSED" = some (some (.int 1000000000000 t_MOST_MISSED)))
    (g_MISSED : PySem.W.nsIn K mainGlobals "MISSED" = some (some (.int 1 t_MISSED)))
    (g_THROWN : PySem.W.nsIn K mainGlobals "THROWN" = some (some (.int 2 t_THROWN)))
    (b_ValueError : PySem.W.nsIn K mainGlobals "ValueError" = some none)
    (b_divmod : PySem.W.nsIn K mainGlobals "divmod" = some none)
    (b_enumerate : PySem.W.nsIn K mainGlobals "enumerate" = some none)
    (b_int : PySem.W.nsIn K mainGlobals "int" = some none)
    (b_isinstance : PySem.W.nsIn K mainGlobals "isinstance" = some none)
    (b_len : PySem.W.nsIn K mainGlobals "len" = some none)
    (b_list : PySem.W.nsIn K mainGlobals "list" = some none)
    (b_max : PySem.W.nsIn K mainGlobals "max" = some none)
    (b_min : PySem.W.nsIn K mainGlobals "min" = some none)
    (b_range : PySem.W.nsIn K mainGlobals "range" = some none)
    (b_sum : PySem.W.nsIn K mainGlobals "sum" = some none)
    (b_super : PySem.W.nsIn K mainGlobals "super" = some none)
    (b_tuple : PySem.W.nsIn K mainGlobals "tuple" = some none)
    (b_zip : PySem.W.nsIn K mainGlobals "zip" = some none)
    (g_LoafError : PySem.W.nsIn K mainGlobals "LoafError" = some (some (.ref c_LoafError)))
    (g_InvalidBakery : PySem.W.nsIn K mainGlobals "InvalidBakery" = some (some (.ref c_InvalidBakery)))
    (g_InvalidNumber : PySem.W.nsIn K mainGlobals "InvalidNumber" = some (some (.ref c_InvalidNumber)))
    (g_InvalidDays : PySem.W.nsIn K mainGlobals "InvalidDays" = some (some (.ref c_InvalidDays)))
    (g_Contradiction : PySem.W.nsIn K mainGlobals "Contradiction" = some (some (.ref c_Contradiction)))
    (xe_base : PySem.W.subIn K (.ref c_LoafError) (.type "BaseException") = some true)
    (xe_dict : PySem.W.hasDictIn K c_LoafError = true)
    (xe_type : PySem.W.typeIn K (.ref c_LoafError) = some (.type "type"))
    (xe_any : PySem.W.nsIn K cStatics "thirdparty.any" = some none)
    (xe_top : (l.prog.main.scope.names.lookup ("super" : Str)).isSome = false)
    (xe_cg : PySem.W.specialIn K (.builtin "object.__class__") "__get__" = some (some (.builtin "getset_descriptor.__get__")))
    (xe_ct : PySem.W.takesIn K (.builtin "object.__class__") = some true)
    (xp_InvalidNumber : PySem.W.excIn K c_InvalidNumber [.type "ValueError", .type "Exception", .type "BaseException", .type "object"] "ValueError.__new__" = true)
    (xq_InvalidNumber : PySem.W.keepIn K (.ref c_InvalidNumber) = true)
    (xb_InvalidNumber : PySem.W.subIn K (.ref c_InvalidNumber) (.type "BaseException") = some true)
    (xy_InvalidNumber : PySem.W.typeIn K (.ref c_InvalidNumber) = some (.type "type"))
    (xv_InvalidNumber : PySem.W.kitOne K (.ref c_InvalidNumber) (.type "ValueError") = some true)
    (xk_InvalidNumber_InvalidBakery : PySem.W.kitOne K (.ref c_InvalidNumber) (.ref c_InvalidBakery) = some false)
    (xk_InvalidNumber_InvalidNumber : PySem.W.kitOne K (.ref c_InvalidNumber) (.ref c_InvalidNumber) = some true)
    (xk_InvalidNumber_InvalidDays : PySem.W.kitOne K (.ref c_InvalidNumber) (.ref c_InvalidDays) = some false)
    (xk_InvalidNumber_Contradiction : PySem.W.kitOne K (.ref c_InvalidNumber) (.ref c_Contradiction) = some false)
    (xhd_InvalidNumber : PySem.W.hasDictIn K c_InvalidNumber = true)
    (xic_InvalidNumber : PySem.W.isClsIn K c_InvalidNumber = true)
    (xga_InvalidNumber : PySem.W.findIn K (.ref c_InvalidNumber) "__getattribute__" = some (some (.builtin "BaseException.__getattribute__")))
    (xgg_InvalidNumber : PySem.W.findIn K (.ref c_InvalidNumber) "__getattr__" = some none)
    (xca_InvalidNumber : PySem.W.findIn K (.ref c_InvalidNumber) "__class__" = some (some (.builtin "object.__class__")))
    (xmo_InvalidNumber : PySem.W.mroIn K c_InvalidNumber (.type "object") = some true)
    (sL_InvalidNumber : PySem.W.subIn K (.ref c_InvalidNumber) (.ref c_LoafError) = some true)
    (xp_Contradiction : PySem.W.excIn K c_Contradiction [.type "ValueError", .type "Exception", .type "BaseException", .type "object"] "ValueError.__new__" = true)
    (xq_Contradiction : PySem.W.keepIn K (.ref c_Contradiction) = true)
    (xb_Contradiction : PySem.W.subIn K (.ref c_Contradiction) (.type "BaseException") = some true)
    (xy_Contradiction : PySem.W.typeIn K (.ref c_Contradiction) = some (.type "type"))
    (xv_Contradiction : PySem.W.kitOne K (.ref c_Contradiction) (.type "ValueError") = some true)
    (xk_Contradiction_InvalidBakery : PySem.W.kitOne K (.ref c_Contradiction) (.ref c_InvalidBakery) = some false)
    (xk_Contradiction_InvalidNumber : PySem.W.kitOne K (.ref c_Contradiction) (.ref c_InvalidNumber) = some false)
    (xk_Contradiction_InvalidDays : PySem.W.kitOne K (.ref c_Contradiction) (.ref c_InvalidDays) = some false)
    (xk_Contradiction_Contradiction : PySem.W.kitOne K (.ref c_Contradiction) (.ref c_Contradiction) = some true)
    (xhd_Contradiction : PySem.W.hasDictIn K c_Contradiction = true)
    (xic_Contradiction : PySem.W.isClsIn K c_Contradiction = true)
    (xga_Contradiction : PySem.W.findIn K (.ref c_Contradiction) "__getattribute__" = some (some (.builtin "BaseException.__getattribute__")))
    (xgg_Contradiction : PySem.W.findIn K (.ref c_Contradiction) "__getattr__" = some none)
    (xca_Contradiction : PySem.W.findIn K (.ref c_Contradiction) "__class__" = some (some (.builtin "object.__class__")))
    (xmo_Contradiction : PySem.W.mroIn K c_Contradiction (.type "object") = some true)
    (sL_Contradiction : PySem.W.subIn K (.ref c_Contradiction) (.ref c_LoafError) = some true)
    (xL_InvalidBakery : K.lookup c_InvalidBakery = some (excClassObj nm_InvalidBakery q_InvalidBakery c_InvalidBakery N_InvalidBakery bs_InvalidBakery bm_InvalidBakery true sn_InvalidBakery sub_InvalidBakery ab_InvalidBakery col_InvalidBakery dd_InvalidBakery m0_InvalidBakery m1_InvalidBakery m2_InvalidBakery m3_InvalidBakery m5_InvalidBakery "ValueError.__new__"))
    (xr_InvalidBakery : PySem.HandSPX.refsVE bm_InvalidBakery = true)
    (xsa_InvalidBakery : PySem.W.findIn K (.ref c_InvalidBakery) "__setattr__" = some (some (.builtin "object.__setattr__")))
    (xkC_InvalidBakery : PySem.W.keepIn K (.ref c_InvalidBakery) = true)
    (xeC_InvalidBakery : PySem.W.subIn K (.ref c_InvalidBakery) (.type "BaseException") = some true)
    (xtC_InvalidBakery : PySem.W.typeIn K (.ref c_InvalidBakery) = some (.type "type"))
    (xhd_InvalidBakery : PySem.W.hasDictIn K c_InvalidBakery = true)
    (xic_InvalidBakery : PySem.W.isClsIn K c_InvalidBakery = true)
    (xga_InvalidBakery : PySem.W.findIn K (.ref c_InvalidBakery) "__getattribute__" = some (some (.builtin "BaseException.__getattribute__")))
    (xgg_InvalidBakery : PySem.W.findIn K (.ref c_InvalidBakery) "__getattr__" = some none)
    (xca_InvalidBakery : PySem.W.findIn K (.ref c_InvalidBakery) "__class__" = some (some (.builtin "object.__class__")))
    (xmo_InvalidBakery : PySem.W.mroIn K c_InvalidBakery (.type "object") = some true)
    (xi_InvalidBakery : PySem.W.findIn K (.ref c_InvalidBakery) "__init__" = some (some (.ref f_InvalidBakery___init__)))
    (xt_InvalidBakery : PySem.W.typeIn K (.ref f_InvalidBakery___init__) = some (.type "function"))
    (l_InvalidBakery___init__ : K.lookup f_InvalidBakery___init__ = some ⟨oc_InvalidBakery___init__, od_InvalidBakery___init__, .func (PySem.W.ksFn "__init__" "InvalidBakery.__init__" (defArgs s_InvalidBakery___init__) (defBody s_InvalidBakery___init__) (defScope s_InvalidBakery___init__) .none kV_InvalidBakery___init__ dc_InvalidBakery___init__ pm_InvalidBakery___init__ an_InvalidBakery___init__ (.ref ka_InvalidBakery___init__) ct_InvalidBakery___init__ cc_InvalidBakery___init__), sl_InvalidBakery___init__⟩)
    (q_InvalidBakery___init__ : PySem.W.codeIn K (.ref ka_InvalidBakery___init__) "InvalidBakery.__init__" = true)
    (lk_InvalidBakery___init__ : K.lookup ka_InvalidBakery___init__ = some ⟨oe_InvalidBakery___init__, oo_InvalidBakery___init__, .fields vc_InvalidBakery___init__, os_InvalidBakery___init__⟩)
    (vf_InvalidBakery___init__ : vc_InvalidBakery___init__[2]? = some (.str file_InvalidBakery___init__ tf_InvalidBakery___init__))
    (fi_InvalidBakery___init__ : ((l.prog.main.file : Str) == file_InvalidBakery___init__) = true)
    (ce_InvalidBakery___init__ : K.lookup cc_InvalidBakery___init__ = some ⟨ol_InvalidBakery___init__, om_InvalidBakery___init__, .cell (some (.ref c_InvalidBakery)), ot_InvalidBakery___init__⟩)
    (su_InvalidBakery___init__ : PySem.W.ks_superIn K c_InvalidBakery c_InvalidBakery "__init__" = some (some (.builtin "ValueError.__init__")))
    (sb_InvalidBakery___init__ : PySem.W.mroIn K c_InvalidBakery (.ref c_InvalidBakery) = some true)
    (sv_InvalidBakery___init__ : PySem.W.subIn K (.ref c_InvalidBakery) (.type "ValueError") = some true)
    (sL_InvalidBakery___init__ : PySem.W.subIn K (.ref c_InvalidBakery) (.ref c_LoafError) = some true)
    (xv_InvalidBakery : PySem.W.kitOne K (.ref c_InvalidBakery) (.type "ValueError") = some true)
    (xk_InvalidBakery_InvalidBakery : PySem.W.kitOne K (.ref c_InvalidBakery) (.ref c_InvalidBakery) = some true)
    (xk_InvalidBakery_InvalidNumber : PySem.W.kitOne K (.ref c_InvalidBakery) (.ref c_InvalidNumber) = some false)
    (xk_InvalidBakery_InvalidDays : PySem.W.kitOne K (.ref c_InvalidBakery) (.ref c_InvalidDays) = some false)
    (xk_InvalidBakery_Contradiction : PySem.W.kitOne K (.ref c_InvalidBakery) (.ref c_Contradiction) = some false)
    (na_InvalidBakery_part : PySem.W.findIn K (.ref c_InvalidBakery) "part" = some none)
    (na_InvalidBakery_index : PySem.W.findIn K (.ref c_InvalidBakery) "index" = some none)
    (xL_InvalidDays : K.lookup c_InvalidDays = some (excClassObj nm_InvalidDays q_InvalidDays c_InvalidDays N_InvalidDays bs_InvalidDays bm_InvalidDays true sn_InvalidDays sub_InvalidDays ab_InvalidDays col_InvalidDays dd_InvalidDays m0_InvalidDays m1_InvalidDays m2_InvalidDays m3_InvalidDays m5_InvalidDays "ValueError.__new__"))
    (xr_InvalidDays : PySem.HandSPX.refsVE bm_InvalidDays = true)
    (xsa_InvalidDays : PySem.W.findIn K (.ref c_InvalidDays) "__setattr__" = some (some (.builtin "object.__setattr__")))
    (xkC_InvalidDays : PySem.W.keepIn K (.ref c_InvalidDays) = true)
    (xeC_InvalidDays : PySem.W.subIn K (.ref c_InvalidDays) (.type "BaseException") = some true)
    (xtC_InvalidDays : PySem.W.typeIn K (.ref c_InvalidDays) = some (.type "type"))
    (xhd_InvalidDays : PySem.W.hasDictIn K c_InvalidDays = true)
    (xic_InvalidDays : PySem.W.isClsIn K c_InvalidDays = true)
    (xga_InvalidDays : PySem.W.findIn K (.ref c_InvalidDays) "__getattribute__" = some (some (.builtin "BaseException.__getattribute__")))
    (xgg_InvalidDays : PySem.W.findIn K (.ref c_InvalidDays) "__getattr__" = some none)
    (xca_InvalidDays : PySem.W.findIn K (.ref c_InvalidDays) "__class__" = some (some (.builtin "object.__class__")))
    (xmo_InvalidDays : PySem.W.mroIn K c_InvalidDays (.type "object") = some true)
    (xi_InvalidDays : PySem.W.findIn K (.ref c_InvalidDays) "__init__" = some (some (.ref f_InvalidDays___init__)))
    (xt_InvalidDays : PySem.W.typeIn K (.ref f_InvalidDays___init__) = some (.type "function"))
    (l_InvalidDays___init__ : K.lookup f_InvalidDays___init__ = some ⟨oc_InvalidDays___init__, od_InvalidDays___init__, .func (PySem.W.ksFn "__init__" "InvalidDays.__init__" (defArgs s_InvalidDays___init__) (defBody s_InvalidDays___init__) (defScope s_InvalidDays___init__) .none kV_InvalidDays___init__ dc_InvalidDays___init__ pm_InvalidDays___init__ an_InvalidDays___init__ (.ref ka_InvalidDays___init__) ct_InvalidDays___init__ cc_InvalidDays___init__), sl_InvalidDays___init__⟩)
    (q_InvalidDays___init__ : PySem.W.codeIn K (.ref ka_InvalidDays___init__) "InvalidDays.__init__" = true)
    (lk_InvalidDays___init__ : K.lookup ka_InvalidDays___init__ = some ⟨oe_InvalidDays___init__, oo_InvalidDays___init__, .fields vc_InvalidDays___init__, os_InvalidDays___init__⟩)
    (vf_InvalidDays___init__ : vc_InvalidDays___init__[2]? = some (.str file_InvalidDays___init__ tf_InvalidDays___init__))
    (fi_InvalidDays___init__ : ((l.prog.main.file : Str) == file_InvalidDays___init__) = true)
    (ce_InvalidDays___init__ : K.lookup cc_InvalidDays___init__ = some ⟨ol_InvalidDays___init__, om_InvalidDays___init__, .cell (some (.ref c_InvalidDays)), ot_InvalidDays___init__⟩)
    (su_InvalidDays___init__ : PySem.W.ks_superIn K c_InvalidDays c_InvalidDays "__init__" = some (some (.builtin "ValueError.__init__")))
    (sb_InvalidDays___init__ : PySem.W.mroIn K c_InvalidDays (.ref c_InvalidDays) = some true)
    (sv_InvalidDays___init__ : PySem.W.subIn K (.ref c_InvalidDays) (.type "ValueError") = some true)
    (sL_InvalidDays___init__ : PySem.W.subIn K (.ref c_InvalidDays) (.ref c_LoafError) = some true)
    (xv_InvalidDays : PySem.W.kitOne K (.ref c_InvalidDays) (.type "ValueError") = some true)
    (xk_InvalidDays_InvalidBakery : PySem.W.kitOne K (.ref c_InvalidDays) (.ref c_InvalidBakery) = some false)
    (xk_InvalidDays_InvalidNumber : PySem.W.kitOne K (.ref c_InvalidDays) (.ref c_InvalidNumber) = some false)
    (xk_InvalidDays_InvalidDays : PySem.W.kitOne K (.ref c_InvalidDays) (.ref c_InvalidDays) = some true)
    (xk_InvalidDays_Contradiction : PySem.W.kitOne K (.ref c_InvalidDays) (.ref c_Contradiction) = some false)
    (na_InvalidDays_index : PySem.W.findIn K (.ref c_InvalidDays) "index" = some none)
    (a_check_number : PySem.W.nsIn K mainGlobals "check_number" = some (some (.ref f_check_number)))
    (l_check_number : K.lookup f_check_number = some ⟨oc_check_number, od_check_number, .func (PySem.W.fnOf "check_number" "check_number" (defArgs s_check_number) (defBody s_check_number) (defScope s_check_number) .none kV_check_number dc_check_number pm_check_number an_check_number cd_check_number ct_check_number), sl_check_number⟩)
    (q_check_number : PySem.W.codeIn K cd_check_number "check_number" = true)
    (k_check_number : PySem.W.keepIn K (.ref f_check_number) = true)
    (a_count_keepable : PySem.W.nsIn K mainGlobals "count_keepable" = some (some (.ref f_count_keepable)))
    (l_count_keepable : K.lookup f_count_keepable = some ⟨oc_count_keepable, od_count_keepable, .func (PySem.W.fnOf "count_keepable" "count_keepable" (defArgs s_count_keepable) (defBody s_count_keepable) (defScope s_count_keepable) .none kV_count_keepable dc_count_keepable pm_count_keepable an_count_keepable cd_count_keepable ct_count_keepable), sl_count_keepable⟩)
    (q_count_keepable : PySem.W.codeIn K cd_count_keepable "count_keepable" = true)
    (k_count_keepable : PySem.W.keepIn K (.ref f_count_keepable) = true)
    (a_sum_repeated : PySem.W.nsIn K mainGlobals "sum_repeated" = some (some (.ref f_sum_repeated)))
    (l_sum_repeated : K.lookup f_sum_repeated = some ⟨oc_sum_repeated, od_sum_repeated, .func (PySem.W.fnOf "sum_repeated" "sum_repeated" (defArgs s_sum_repeated) (defBody s_sum_repeated) (defScope s_sum_repeated) .none kV_sum_repeated dc_sum_repeated pm_sum_repeated an_sum_repeated cd_sum_repeated ct_sum_repeated), sl_sum_repeated⟩)
    (q_sum_repeated : PySem.W.codeIn K cd_sum_repeated "sum_repeated" = true)
    (k_sum_repeated : PySem.W.keepIn K (.ref f_sum_repeated) = true)
    (a_Course___init__ : PySem.W.findIn K (.ref c_Course) "__init__" = some (some (.ref f_Course___init__)))
    (i_Course___init__ : PySem.W.isFn K (.ref f_Course___init__) = true)
    (l_Course___init__ : K.lookup f_Course___init__ = some ⟨oc_Course___init__, od_Course___init__, .func (PySem.W.fnOf "__init__" "Course.__init__" (defArgs s_Course___init__) (defBody s_Course___init__) (defScope s_Course___init__) .none kV_Course___init__ dc_Course___init__ pm_Course___init__ an_Course___init__ cd_Course___init__ ct_Course___init__), sl_Course___init__⟩)
    (q_Course___init__ : PySem.W.codeIn K cd_Course___init__ "Course.__init__" = true)
    (k_Course___init__ : PySem.W.keepIn K (.ref f_Course___init__) = true)
    (a_Course_stock_at : PySem.W.findIn K (.ref c_Course) "stock_at" = some (some (.ref f_Course_stock_at)))
    (i_Course_stock_at : PySem.W.isFn K (.ref f_Course_stock_at) = true)
    (l_Course_stock_at : K.lookup f_Course_stock_at = some ⟨oc_Course_stock_at, od_Course_stock_at, .func (PySem.W.fnOf "stock_at" "Course.stock_at" (defArgs s_Course_stock_at) (defBody s_Course_stock_at) (defScope s_Course_stock_at) .none kV_Course_stock_at dc_Course_stock_at pm_Course_stock_at an_Course_stock_at cd_Course_stock_at ct_Course_stock_at), sl_Course_stock_at⟩)
    (q_Course_stock_at : PySem.W.codeIn K cd_Course_stock_at "Course.stock_at" = true)
    (k_Course_stock_at : PySem.W.keepIn K (.ref f_Course_stock_at) = true)
    (a_Course_sales_on : PySem.W.findIn K (.ref c_Course) "sales_on" = some (some (.ref f_Course_sales_on)))
    (i_Course_sales_on : PySem.W.isFn K (.ref f_Course_sales_on) = true)
    (l_Course_sales_on : K.lookup f_Course_sales_on = some ⟨oc_Course_sales_on, od_Course_sales_on, .func (PySem.W.fnOf "sales_on" "Course.sales_on" (defArgs s_Course_sales_on) (defBody s_Course_sales_on) (defScope s_Course_sales_on) .none kV_Course_sales_on dc_Course_sales_on pm_Course_sales_on an_Course_sales_on cd_Course_sales_on ct_Course_sales_on), sl_Course_sales_on⟩)
    (q_Course_sales_on : PySem.W.codeIn K cd_Course_sales_on "Course.sales_on" = true)
    (k_Course_sales_on : PySem.W.keepIn K (.ref f_Course_sales_on) = true)
    (a_Course_sales_before : PySem.W.findIn K (.ref c_Course) "sales_before" = some (some (.ref f_Course_sales_before)))
    (i_Course_sales_before : PySem.W.isFn K (.ref f_Course_sales_before) = true)
    (l_Course_sales_before : K.lookup f_Course_sales_before = some ⟨oc_Course_sales_before, od_Course_sales_before, .func (PySem.W.fnOf "sales_before" "Course.sales_before" (defArgs s_Course_sales_before) (defBody s_Course_sales_before) (defScope s_Course_sales_before) .none kV_Course_sales_before dc_Course_sales_before pm_Course_sales_before an_Course_sales_before cd_Course_sales_before ct_Course_sales_before), sl_Course_sales_before⟩)
    (q_Course_sales_before : PySem.W.codeIn K cd_Course_sales_before "Course.sales_before" = true)
    (k_Course_sales_before : PySem.W.keepIn K (.ref f_Course_sales_before) = true)
    (a_Course_loaves_at : PySem.W.findIn K (.ref c_Course) "loaves_at" = some (some (.ref f_Course_loaves_at)))
    (i_Course_loaves_at : PySem.W.isFn K (.ref f_Course_loaves_at) = true)
    (l_Course_loaves_at : K.lookup f_Course_loaves_at = some ⟨oc_Course_loaves_at, od_Course_loaves_at, .func (PySem.W.fnOf "loaves_at" "Course.loaves_at" (defArgs s_Course_loaves_at) (defBody s_Course_loaves_at) (defScope s_Course_loaves_at) .none kV_Course_loaves_at dc_Course_loaves_at pm_Course_loaves_at an_Course_loaves_at cd_Course_loaves_at ct_Course_loaves_at), sl_Course_loaves_at⟩)
    (q_Course_loaves_at : PySem.W.codeIn K cd_Course_loaves_at "Course.loaves_at" = true)
    (k_Course_loaves_at : PySem.W.keepIn K (.ref f_Course_loaves_at) = true)
    (a_Course_find_settled : PySem.W.findIn K (.ref c_Course) "find_settled" = some (some (.ref f_Course_find_settled)))
    (i_Course_find_settled : PySem.W.isFn K (.ref f_Course_find_settled) = true)
    (l_Course_find_settled : K.lookup f_Course_find_settled = some ⟨oc_Course_find_settled, od_Course_find_settled, .func (PySem.W.fnOf "find_settled" "Course.find_settled" (defArgs s_Course_find_settled) (defBody s_Course_find_settled) (defScope s_Course_find_settled) .none kV_Course_find_settled dc_Course_find_settled pm_Course_find_settled an_Course_find_settled cd_Course_find_settled ct_Course_find_settled), sl_Course_find_settled⟩)
    (q_Course_find_settled : PySem.W.codeIn K cd_Course_find_settled "Course.find_settled" = true)
    (k_Course_find_settled : PySem.W.keepIn K (.ref f_Course_find_settled) = true)
    (a_Course_sum_settled_round : PySem.W.findIn K (.ref c_Course) "sum_settled_round" = some (some (.ref f_Course_sum_settled_round)))
    (i_Course_sum_settled_round : PySem.W.isFn K (.ref f_Course_sum_settled_round) = true)
    (l_Course_sum_settled_round : K.lookup f_Course_sum_settled_round = some ⟨oc_Course_sum_settled_round, od_Course_sum_settled_round, .func (PySem.W.fnOf "sum_settled_round" "Course.sum_settled_round" (defArgs s_Course_sum_settled_round) (defBody s_Course_sum_settled_round) (defScope s_Course_sum_settled_round) .none kV_Course_sum_settled_round dc_Course_sum_settled_round pm_Course_sum_settled_round an_Course_sum_settled_round cd_Course_sum_settled_round ct_Course_sum_settled_round), sl_Course_sum_settled_round⟩)
    (q_Course_sum_settled_round : PySem.W.codeIn K cd_Course_sum_settled_round "Course.sum_settled_round" = true)
    (k_Course_sum_settled_round : PySem.W.keepIn K (.ref f_Course_sum_settled_round) = true)
    (a_Course__play_round : PySem.W.findIn K (.ref c_Course) "_play_round" = some (some (.ref f_Course__play_round)))
    (i_Course__play_round : PySem.W.isFn K (.ref f_Course__play_round) = true)
    (l_Course__play_round : K.lookup f_Course__play_round = some ⟨oc_Course__play_round, od_Course__play_round, .func (PySem.W.fnOf "_play_round" "Course._play_round" (defArgs s_Course__play_round) (defBody s_Course__play_round) (defScope s_Course__play_round) .none kV_Course__play_round dc_Course__play_round pm_Course__play_round an_Course__play_round cd_Course__play_round ct_Course__play_round), sl_Course__play_round⟩)
    (q_Course__play_round : PySem.W.codeIn K cd_Course__play_round "Course._play_round" = true)
    (k_Course__play_round : PySem.W.keepIn K (.ref f_Course__play_round) = true)
    (a_Course__stocks_in : PySem.W.findIn K (.ref c_Course) "_stocks_in" = some (some (.ref f_Course__stocks_in)))
    (i_Course__stocks_in : PySem.W.isFn K (.ref f_Course__stocks_in) = true)
    (l_Course__stocks_in : K.lookup f_Course__stocks_in = some ⟨oc_Course__stocks_in, od_Course__stocks_in, .func (PySem.W.fnOf "_stocks_in" "Course._stocks_in" (defArgs s_Course__stocks_in) (defBody s_Course__stocks_in) (defScope s_Course__stocks_in) .none kV_Course__stocks_in dc_Course__stocks_in pm_Course__stocks_in an_Course__stocks_in cd_Course__stocks_in ct_Course__stocks_in), sl_Course__stocks_in⟩)
    (q_Course__stocks_in : PySem.W.codeIn K cd_Course__stocks_in "Course._stocks_in" = true)
    (k_Course__stocks_in : PySem.W.keepIn K (.ref f_Course__stocks_in) = true)
    (a_Course__misses_in : PySem.W.findIn K (.ref c_Course) "_misses_in" = some (some (.ref f_Course__misses_in)))
    (i_Course__misses_in : PySem.W.isFn K (.ref f_Course__misses_in) = true)
    (l_Course__misses_in : K.lookup f_Course__misses_in = some ⟨oc_Course__misses_in, od_Course__misses_in, .func (PySem.W.fnOf "_misses_in" "Course._misses_in" (defArgs s_Course__misses_in) (defBody s_Course__misses_in) (defScope s_Course__misses_in) .none kV_Course__misses_in dc_Course__misses_in pm_Course__misses_in an_Course__misses_in cd_Course__misses_in ct_Course__misses_in), sl_Course__misses_in⟩)
    (q_Course__misses_in : PySem.W.codeIn K cd_Course__misses_in "Course._misses_in" = true)
    (k_Course__misses_in : PySem.W.keepIn K (.ref f_Course__misses_in) = true)
    (a_Course__count_growing : PySem.W.findIn K (.ref c_Course) "_count_growing" = some (some (.ref f_Course__count_growing)))
    (i_Course__count_growing : PySem.W.isFn K (.ref f_Course__count_growing) = true)
    (l_Course__count_growing : K.lookup f_Course__count_growing = some ⟨oc_Course__count_growing, od_Course__count_growing, .func (PySem.W.fnOf "_count_growing" "Course._count_growing" (defArgs s_Course__count_growing) (defBody s_Course__count_growing) (defScope s_Course__count_growing) .none kV_Course__count_growing dc_Course__count_growing pm_Course__count_growing an_Course__count_growing cd_Course__count_growing ct_Course__count_growing), sl_Course__count_growing⟩)
    (q_Course__count_growing : PySem.W.codeIn K cd_Course__count_growing "Course._count_growing" = true)
    (k_Course__count_growing : PySem.W.keepIn K (.ref f_Course__count_growing) = true)
    (a_check_amounts : PySem.W.nsIn K mainGlobals "check_amounts" = some (some (.ref f_check_amounts)))
    (l_check_amounts : K.lookup f_check_amounts = some ⟨oc_check_amounts, od_check_amounts, .func (PySem.W.fnOf "check_amounts" "check_amounts" (defArgs s_check_amounts) (defBody s_check_amounts) (defScope s_check_amounts) .none kV_check_amounts dc_check_amounts pm_check_amounts an_check_amounts cd_check_amounts ct_check_amounts), sl_check_amounts⟩)
    (q_check_amounts : PySem.W.codeIn K cd_check_amounts "check_amounts" = true)
    (k_check_amounts : PySem.W.keepIn K (.ref f_check_amounts) = true)
    (a_check_life : PySem.W.nsIn K mainGlobals "check_life" = some (some (.ref f_check_life)))
    (l_check_life : K.lookup f_check_life = some ⟨oc_check_life, od_check_life, .func (PySem.W.fnOf "check_life" "check_life" (defArgs s_check_life) (defBody s_check_life) (defScope s_check_life) .none kV_check_life dc_check_life pm_check_life an_check_life cd_check_life ct_check_life), sl_check_life⟩)
    (q_check_life : PySem.W.codeIn K cd_check_life "check_life" = true)
    (k_check_life : PySem.W.keepIn K (.ref f_check_life) = true)
    (a_check_bakery : PySem.W.nsIn K mainGlobals "check_bakery" = some (some (.ref f_check_bakery)))
    (l_check_bakery : K.lookup f_check_bakery = some ⟨oc_check_bakery, od_check_bakery, .func (PySem.W.fnOf "check_bakery" "check_bakery" (defArgs s_check_bakery) (defBody s_check_bakery) (defScope s_check_bakery) .none kV_check_bakery dc_check_bakery pm_check_bakery an_check_bakery cd_check_bakery ct_check_bakery), sl_check_bakery⟩)
    (q_check_bakery : PySem.W.codeIn K cd_check_bakery "check_bakery" = true)
    (k_check_bakery : PySem.W.keepIn K (.ref f_check_bakery) = true)
    (a_Bakery___init__ : PySem.W.findIn K (.ref c_Bakery) "__init__" = some (some (.ref f_Bakery___init__)))
    (i_Bakery___init__ : PySem.W.isFn K (.ref f_Bakery___init__) = true)
    (l_Bakery___init__ : K.lookup f_Bakery___init__ = some ⟨oc_Bakery___init__, od_Bakery___init__, .func (PySem.W.fnOf "__init__" "Bakery.__init__" (defArgs s_Bakery___init__) (defBody s_Bakery___init__) (defScope s_Bakery___init__) .none kV_Bakery___init__ dc_Bakery___init__ pm_Bakery___init__ an_Bakery___init__ cd_Bakery___init__ ct_Bakery___init__), sl_Bakery___init__⟩)
    (q_Bakery___init__ : PySem.W.codeIn K cd_Bakery___init__ "Bakery.__init__" = true)
    (k_Bakery___init__ : PySem.W.keepIn K (.ref f_Bakery___init__) = true)
    (a_Bakery_bakes : PySem.W.findIn K (.ref c_Bakery) "bakes" = some (some (.ref pr_Bakery_bakes)))
    (pg_Bakery_bakes : PySem.W.specialIn K (.ref pr_Bakery_bakes) "__get__" = some (some (.builtin "property.__get__")))
    (pt_Bakery_bakes : PySem.W.takesIn K (.ref pr_Bakery_bakes) = some true)
    (pr1_Bakery_bakes : PySem.W.recIn K pr_Bakery_bakes "property" = some (.ref f_Bakery_bakes :: rs_Bakery_bakes))
    (l_Bakery_bakes : K.lookup f_Bakery_bakes = some ⟨oc_Bakery_bakes, od_Bakery_bakes, .func (PySem.W.fnOf "bakes" "Bakery.bakes" (defArgs s_Bakery_bakes) (defBody s_Bakery_bakes) (defScope s_Bakery_bakes) .none kV_Bakery_bakes dc_Bakery_bakes pm_Bakery_bakes an_Bakery_bakes cd_Bakery_bakes ct_Bakery_bakes), sl_Bakery_bakes⟩)
    (q_Bakery_bakes : PySem.W.codeIn K cd_Bakery_bakes "Bakery.bakes" = true)
    (k_Bakery_bakes : PySem.W.keepIn K (.ref f_Bakery_bakes) = true)
    (a_Bakery_demands : PySem.W.findIn K (.ref c_Bakery) "demands" = some (some (.ref pr_Bakery_demands)))
    (pg_Bakery_demands : PySem.W.specialIn K (.ref pr_Bakery_demands) "__get__" = some (some (.builtin "property.__get__")))
    (pt_Bakery_demands : PySem.W.takesIn K (.ref pr_Bakery_demands) = some true)
    (pr1_Bakery_demands : PySem.W.recIn K pr_Bakery_demands "property" = some (.ref f_Bakery_demands :: rs_Bakery_demands))
    (l_Bakery_demands : K.lookup f_Bakery_demands = some ⟨oc_Bakery_demands, od_Bakery_demands, .func (PySem.W.fnOf "demands" "Bakery.demands" (defArgs s_Bakery_demands) (defBody s_Bakery_demands) (defScope s_Bakery_demands) .none kV_Bakery_demands dc_Bakery_demands pm_Bakery_demands an_Bakery_demands cd_Bakery_demands ct_Bakery_demands), sl_Bakery_demands⟩)
    (q_Bakery_demands : PySem.W.codeIn K cd_Bakery_demands "Bakery.demands" = true)
    (k_Bakery_demands : PySem.W.keepIn K (.ref f_Bakery_demands) = true)
    (a_Bakery_life : PySem.W.findIn K (.ref c_Bakery) "life" = some (some (.ref pr_Bakery_life)))
    (pg_Bakery_life : PySem.W.specialIn K (.ref pr_Bakery_life) "__get__" = some (some (.builtin "property.__get__")))
    (pt_Bakery_life : PySem.W.takesIn K (.ref pr_Bakery_life) = some true)
    (pr1_Bakery_life : PySem.W.recIn K pr_Bakery_life "property" = some (.ref f_Bakery_life :: rs_Bakery_life))
    (l_Bakery_life : K.lookup f_Bakery_life = some ⟨oc_Bakery_life, od_Bakery_life, .func (PySem.W.fnOf "life" "Bakery.life" (defArgs s_Bakery_life) (defBody s_Bakery_life) (defScope s_Bakery_life) .none kV_Bakery_life dc_Bakery_life pm_Bakery_life an_Bakery_life cd_Bakery_life ct_Bakery_life), sl_Bakery_life⟩)
    (q_Bakery_life : PySem.W.codeIn K cd_Bakery_life "Bakery.life" = true)
    (k_Bakery_life : PySem.W.keepIn K (.ref f_Bakery_life) = true)
    (a_Bakery_settled_day : PySem.W.findIn K (.ref c_Bakery) "settled_day" = some (some (.ref pr_Bakery_settled_day)))
    (pg_Bakery_settled_day : PySem.W.specialIn K (.ref pr_Bakery_settled_day) "__get__" = some (some (.builtin "property.__get__")))
    (pt_Bakery_settled_day : PySem.W.takesIn K (.ref pr_Bakery_settled_day) = some true)
    (pr1_Bakery_settled_day : PySem.W.recIn K pr_Bakery_settled_day "property" = some (.ref f_Bakery_settled_day :: rs_Bakery_settled_day))
    (l_Bakery_settled_day : K.lookup f_Bakery_settled_day = some ⟨oc_Bakery_settled_day, od_Bakery_settled_day, .func (PySem.W.fnOf "settled_day" "Bakery.settled_day" (defArgs s_Bakery_settled_day) (defBody s_Bakery_settled_day) (defScope s_Bakery_settled_day) .none kV_Bakery_settled_day dc_Bakery_settled_day pm_Bakery_settled_day an_Bakery_settled_day cd_Bakery_settled_day ct_Bakery_settled_day), sl_Bakery_settled_day⟩)
    (q_Bakery_settled_day : PySem.W.codeIn K cd_Bakery_settled_day "Bakery.settled_day" = true)
    (k_Bakery_settled_day : PySem.W.keepIn K (.ref f_Bakery_settled_day) = true)
    (a_Bakery_long_run : PySem.W.findIn K (.ref c_Bakery) "long_run" = some (some (.ref pr_Bakery_long_run)))
    (pg_Bakery_long_run : PySem.W.specialIn K (.ref pr_Bakery_long_run) "__get__" = some (some (.builtin "property.__get__")))
    (pt_Bakery_long_run : PySem.W.takesIn K (.ref pr_Bakery_long_run) = some true)
    (pr1_Bakery_long_run : PySem.W.recIn K pr_Bakery_long_run "property" = some (.ref f_Bakery_long_run :: rs_Bakery_long_run))
    (l_Bakery_long_run : K.lookup f_Bakery_long_run = some ⟨oc_Bakery_long_run, od_Bakery_long_run, .func (PySem.W.fnOf "long_run" "Bakery.long_run" (defArgs s_Bakery_long_run) (defBody s_Bakery_long_run) (defScope s_Bakery_long_run) .none kV_Bakery_long_run dc_Bakery_long_run pm_Bakery_long_run an_Bakery_long_run cd_Bakery_long_run ct_Bakery_long_run), sl_Bakery_long_run⟩)
    (q_Bakery_long_run : PySem.W.codeIn K cd_Bakery_long_run "Bakery.long_run" = true)
    (k_Bakery_long_run : PySem.W.keepIn K (.ref f_Bakery_long_run) = true)
    (a_Bakery_with_life : PySem.W.findIn K (.ref c_Bakery) "with_life" = some (some (.ref f_Bakery_with_life)))
    (i_Bakery_with_life : PySem.W.isFn K (.ref f_Bakery_with_life) = true)
    (l_Bakery_with_life : K.lookup f_Bakery_with_life = some ⟨oc_Bakery_with_life, od_Bakery_with_life, .func (PySem.W.fnOf "with_life" "Bakery.with_life" (defArgs s_Bakery_with_life) (defBody s_Bakery_with_life) (defScope s_Bakery_with_life) .none kV_Bakery_with_life dc_Bakery_with_life pm_Bakery_with_life an_Bakery_with_life cd_Bakery_with_life ct_Bakery_with_life), sl_Bakery_with_life⟩)
    (q_Bakery_with_life : PySem.W.codeIn K cd_Bakery_with_life "Bakery.with_life" = true)
    (k_Bakery_with_life : PySem.W.keepIn K (.ref f_Bakery_with_life) = true)
    (a_Bakery_baking_more : PySem.W.findIn K (.ref c_Bakery) "baking_more" = some (some (.ref f_Bakery_baking_more)))
    (i_Bakery_baking_more : PySem.W.isFn K (.ref f_Bakery_baking_more) = true)
    (l_Bakery_baking_more : K.lookup f_Bakery_baking_more = some ⟨oc_Bakery_baking_more, od_Bakery_baking_more, .func (PySem.W.fnOf "baking_more" "Bakery.baking_more" (defArgs s_Bakery_baking_more) (defBody s_Bakery_baking_more) (defScope s_Bakery_baking_more) .none kV_Bakery_baking_more dc_Bakery_baking_more pm_Bakery_baking_more an_Bakery_baking_more cd_Bakery_baking_more ct_Bakery_baking_more), sl_Bakery_baking_more⟩)
    (q_Bakery_baking_more : PySem.W.codeIn K cd_Bakery_baking_more "Bakery.baking_more" = true)
    (k_Bakery_baking_more : PySem.W.keepIn K (.ref f_Bakery_baking_more) = true)
    (a_Bakery_stock : PySem.W.findIn K (.ref c_Bakery) "stock" = some (some (.ref f_Bakery_stock)))
    (i_Bakery_stock : PySem.W.isFn K (.ref f_Bakery_stock) = true)
    (l_Bakery_stock : K.lookup f_Bakery_stock = some ⟨oc_Bakery_stock, od_Bakery_stock, .func (PySem.W.fnOf "stock" "Bakery.stock" (defArgs s_Bakery_stock) (defBody s_Bakery_stock) (defScope s_Bakery_stock) .none kV_Bakery_stock dc_Bakery_stock pm_Bakery_stock an_Bakery_stock cd_Bakery_stock ct_Bakery_stock), sl_Bakery_stock⟩)
    (q_Bakery_stock : PySem.W.codeIn K cd_Bakery_stock "Bakery.stock" = true)
    (k_Bakery_stock : PySem.W.keepIn K (.ref f_Bakery_stock) = true)
    (a_Bakery_sold : PySem.W.findIn K (.ref c_Bakery) "sold" = some (some (.ref f_Bakery_sold)))
    (i_Bakery_sold : PySem.W.isFn K (.ref f_Bakery_sold) = true)
    (l_Bakery_sold : K.lookup f_Bakery_sold = some ⟨oc_Bakery_sold, od_Bakery_sold, .func (PySem.W.fnOf "sold" "Bakery.sold" (defArgs s_Bakery_sold) (defBody s_Bakery_sold) (defScope s_Bakery_sold) .none kV_Bakery_sold dc_Bakery_sold pm_Bakery_sold an_Bakery_sold cd_Bakery_sold ct_Bakery_sold), sl_Bakery_sold⟩)
    (q_Bakery_sold : PySem.W.codeIn K cd_Bakery_sold "Bakery.sold" = true)
    (k_Bakery_sold : PySem.W.keepIn K (.ref f_Bakery_sold) = true)
    (a_Bakery_missed : PySem.W.findIn K (.ref c_Bakery) "missed" = some (some (.ref f_Bakery_missed)))
    (i_Bakery_missed : PySem.W.isFn K (.ref f_Bakery_missed) = true)
    (l_Bakery_missed : K.lookup f_Bakery_missed = some ⟨oc_Bakery_missed, od_Bakery_missed, .func (PySem.W.fnOf "missed" "Bakery.missed" (defArgs s_Bakery_missed) (defBody s_Bakery_missed) (defScope s_Bakery_missed) .none kV_Bakery_missed dc_Bakery_missed pm_Bakery_missed an_Bakery_missed cd_Bakery_missed ct_Bakery_missed), sl_Bakery_missed⟩)
    (q_Bakery_missed : PySem.W.codeIn K cd_Bakery_missed "Bakery.missed" = true)
    (k_Bakery_missed : PySem.W.keepIn K (.ref f_Bakery_missed) = true)
    (a_Bakery_thrown : PySem.W.findIn K (.ref c_Bakery) "thrown" = some (some (.ref f_Bakery_thrown)))
    (i_Bakery_thrown : PySem.W.isFn K (.ref f_Bakery_thrown) = true)
    (l_Bakery_thrown : K.lookup f_Bakery_thrown = some ⟨oc_Bakery_thrown, od_Bakery_thrown, .func (PySem.W.fnOf "thrown" "Bakery.thrown" (defArgs s_Bakery_thrown) (defBody s_Bakery_thrown) (defScope s_Bakery_thrown) .none kV_Bakery_thrown dc_Bakery_thrown pm_Bakery_thrown an_Bakery_thrown cd_Bakery_thrown ct_Bakery_thrown), sl_Bakery_thrown⟩)
    (q_Bakery_thrown : PySem.W.codeIn K cd_Bakery_thrown "Bakery.thrown" = true)
    (k_Bakery_thrown : PySem.W.keepIn K (.ref f_Bakery_thrown) = true)
    (a_Bakery_totals : PySem.W.findIn K (.ref c_Bakery) "totals" = some (some (.ref f_Bakery_totals)))
    (i_Bakery_totals : PySem.W.isFn K (.ref f_Bakery_totals) = true)
    (l_Bakery_totals : K.lookup f_Bakery_totals = some ⟨oc_Bakery_totals, od_Bakery_totals, .func (PySem.W.fnOf "totals" "Bakery.totals" (defArgs s_Bakery_totals) (defBody s_Bakery_totals) (defScope s_Bakery_totals) .none kV_Bakery_totals dc_Bakery_totals pm_Bakery_totals an_Bakery_totals cd_Bakery_totals ct_Bakery_totals), sl_Bakery_totals⟩)
    (q_Bakery_totals : PySem.W.codeIn K cd_Bakery_totals "Bakery.totals" = true)
    (k_Bakery_totals : PySem.W.keepIn K (.ref f_Bakery_totals) = true)
    (a_Bakery_shelf : PySem.W.findIn K (.ref c_Bakery) "shelf" = some (some (.ref f_Bakery_shelf)))
    (i_Bakery_shelf : PySem.W.isFn K (.ref f_Bakery_shelf) = true)
    (l_Bakery_shelf : K.lookup f_Bakery_shelf = some ⟨oc_Bakery_shelf, od_Bakery_shelf, .func (PySem.W.fnOf "shelf" "Bakery.shelf" (defArgs s_Bakery_shelf) (defBody s_Bakery_shelf) (defScope s_Bakery_shelf) .none kV_Bakery_shelf dc_Bakery_shelf pm_Bakery_shelf an_Bakery_shelf cd_Bakery_shelf ct_Bakery_shelf), sl_Bakery_shelf⟩)
    (q_Bakery_shelf : PySem.W.codeIn K cd_Bakery_shelf "Bakery.shelf" = true)
    (k_Bakery_shelf : PySem.W.keepIn K (.ref f_Bakery_shelf) = true)
    (a_sell_in_order : PySem.W.nsIn K mainGlobals "sell_in_order" = some (some (.ref f_sell_in_order)))
    (l_sell_in_order : K.lookup f_sell_in_order = some ⟨oc_sell_in_order, od_sell_in_order, .func (PySem.W.fnOf "sell_in_order" "sell_in_order" (defArgs s_sell_in_order) (defBody s_sell_in_order) (defScope s_sell_in_order) .none kV_sell_in_order dc_sell_in_order pm_sell_in_order an_sell_in_order cd_sell_in_order ct_sell_in_order), sl_sell_in_order⟩)
    (q_sell_in_order : PySem.W.codeIn K cd_sell_in_order "sell_in_order" = true)
    (k_sell_in_order : PySem.W.keepIn K (.ref f_sell_in_order) = true)
    (a_newest_first : PySem.W.nsIn K mainGlobals "newest_first" = some (some (.ref f_newest_first)))
    (l_newest_first : K.lookup f_newest_first = some ⟨oc_newest_first, od_newest_first, .func (PySem.W.fnOf "newest_first" "newest_first" (defArgs s_newest_first) (defBody s_newest_first) (defScope s_newest_first) .none kV_newest_first dc_newest_first pm_newest_first an_newest_first cd_newest_first ct_newest_first), sl_newest_first⟩)
    (q_newest_first : PySem.W.codeIn K cd_newest_first "newest_first" = true)
    (k_newest_first : PySem.W.keepIn K (.ref f_newest_first) = true)
    (a_find_loss : PySem.W.nsIn K mainGlobals "find_loss" = some (some (.ref f_find_loss)))
    (l_find_loss : K.lookup f_find_loss = some ⟨oc_find_loss, od_find_loss, .func (PySem.W.fnOf "find_loss" "find_loss" (defArgs s_find_loss) (defBody s_find_loss) (defScope s_find_loss) .none kV_find_loss dc_find_loss pm_find_loss an_find_loss cd_find_loss ct_find_loss), sl_find_loss⟩)
    (q_find_loss : PySem.W.codeIn K cd_find_loss "find_loss" = true)
    (k_find_loss : PySem.W.keepIn K (.ref f_find_loss) = true)
    (a_next_missed : PySem.W.nsIn K mainGlobals "next_missed" = some (some (.ref f_next_missed)))
    (l_next_missed : K.lookup f_next_missed = some ⟨oc_next_missed, od_next_missed, .func (PySem.W.fnOf "next_missed" "next_missed" (defArgs s_next_missed) (defBody s_next_missed) (defScope s_next_missed) .none kV_next_missed dc_next_missed pm_next_missed an_next_missed cd_next_missed ct_next_missed), sl_next_missed⟩)
    (q_next_missed : PySem.W.codeIn K cd_next_missed "next_missed" = true)
    (k_next_missed : PySem.W.keepIn K (.ref f_next_missed) = true)
    (a_next_thrown : PySem.W.nsIn K mainGlobals "next_thrown" = some (some (.ref f_next_thrown)))
    (l_next_thrown : K.lookup f_next_thrown = some ⟨oc_next_thrown, od_next_thrown, .func (PySem.W.fnOf "next_thrown" "next_thrown" (defArgs s_next_thrown) (defBody s_next_thrown) (defScope s_next_thrown) .none kV_next_thrown dc_next_thrown pm_next_thrown an_next_thrown cd_next_thrown ct_next_thrown), sl_next_thrown⟩)
    (q_next_thrown : PySem.W.codeIn K cd_next_thrown "next_thrown" = true)
    (k_next_thrown : PySem.W.keepIn K (.ref f_next_thrown) = true)
    (a_least_life : PySem.W.nsIn K mainGlobals "least_life" = some (some (.ref f_least_life)))
    (l_least_life : K.lookup f_least_life = some ⟨oc_least_life, od_least_life, .func (PySem.W.fnOf "least_life" "least_life" (defArgs s_least_life) (defBody s_least_life) (defScope s_least_life) .none kV_least_life dc_least_life pm_least_life an_least_life cd_least_life ct_least_life), sl_least_life⟩)
    (q_least_life : PySem.W.codeIn K cd_least_life "least_life" = true)
    (k_least_life : PySem.W.keepIn K (.ref f_least_life) = true)
    (a_least_baking : PySem.W.nsIn K mainGlobals "least_baking" = some (some (.ref f_least_baking)))
    (l_least_baking : K.lookup f_least_baking = some ⟨oc_least_baking, od_least_baking, .func (PySem.W.fnOf "least_baking" "least_baking" (defArgs s_least_baking) (defBody s_least_baking) (defScope s_least_baking) .none kV_least_baking dc_least_baking pm_least_baking an_least_baking cd_least_baking ct_least_baking), sl_least_baking⟩)
    (q_least_baking : PySem.W.codeIn K cd_least_baking "least_baking" = true)
    (k_least_baking : PySem.W.keepIn K (.ref f_least_baking) = true)
    (a_LifeObserver___init__ : PySem.W.findIn K (.ref c_LifeObserver) "__init__" = some (some (.ref f_LifeObserver___init__)))
    (i_LifeObserver___init__ : PySem.W.isFn K (.ref f_LifeObserver___init__) = true)
    (l_LifeObserver___init__ : K.lookup f_LifeObserver___init__ = some ⟨oc_LifeObserver___init__, od_LifeObserver___init__, .func (PySem.W.fnOf "__init__" "LifeObserver.__init__" (defArgs s_LifeObserver___init__) (defBody s_LifeObserver___init__) (defScope s_LifeObserver___init__) .none kV_LifeObserver___init__ dc_LifeObserver___init__ pm_LifeObserver___init__ an_LifeObserver___init__ cd_LifeObserver___init__ ct_LifeObserver___init__), sl_LifeObserver___init__⟩)
    (q_LifeObserver___init__ : PySem.W.codeIn K cd_LifeObserver___init__ "LifeObserver.__init__" = true)
    (k_LifeObserver___init__ : PySem.W.keepIn K (.ref f_LifeObserver___init__) = true)
    (a_LifeObserver_records : PySem.W.findIn K (.ref c_LifeObserver) "records" = some (some (.ref pr_LifeObserver_records)))
    (pg_LifeObserver_records : PySem.W.specialIn K (.ref pr_LifeObserver_records) "__get__" = some (some (.builtin "property.__get__")))
    (pt_LifeObserver_records : PySem.W.takesIn K (.ref pr_LifeObserver_records) = some true)
    (pr1_LifeObserver_records : PySem.W.recIn K pr_LifeObserver_records "property" = some (.ref f_LifeObserver_records :: rs_LifeObserver_records))
    (l_LifeObserver_records : K.lookup f_LifeObserver_records = some ⟨oc_LifeObserver_records, od_LifeObserver_records, .func (PySem.W.fnOf "records" "LifeObserver.records" (defArgs s_LifeObserver_records) (defBody s_LifeObserver_records) (defScope s_LifeObserver_records) .none kV_LifeObserver_records dc_LifeObserver_records pm_LifeObserver_records an_LifeObserver_records cd_LifeObserver_records ct_LifeObserver_records), sl_LifeObserver_records⟩)
    (q_LifeObserver_records : PySem.W.codeIn K cd_LifeObserver_records "LifeObserver.records" = true)
    (k_LifeObserver_records : PySem.W.keepIn K (.ref f_LifeObserver_records) = true)
    (a_LifeObserver_see_sold : PySem.W.findIn K (.ref c_LifeObserver) "see_sold" = some (some (.ref f_LifeObserver_see_sold)))
    (i_LifeObserver_see_sold : PySem.W.isFn K (.ref f_LifeObserver_see_sold) = true)
    (l_LifeObserver_see_sold : K.lookup f_LifeObserver_see_sold = some ⟨oc_LifeObserver_see_sold, od_LifeObserver_see_sold, .func (PySem.W.fnOf "see_sold" "LifeObserver.see_sold" (defArgs s_LifeObserver_see_sold) (defBody s_LifeObserver_see_sold) (defScope s_LifeObserver_see_sold) .none kV_LifeObserver_see_sold dc_LifeObserver_see_sold pm_LifeObserver_see_sold an_LifeObserver_see_sold cd_LifeObserver_see_sold ct_LifeObserver_see_sold), sl_LifeObserver_see_sold⟩)
    (q_LifeObserver_see_sold : PySem.W.codeIn K cd_LifeObserver_see_sold "LifeObserver.see_sold" = true)
    (k_LifeObserver_see_sold : PySem.W.keepIn K (.ref f_LifeObserver_see_sold) = true)
    (a_LifeObserver_see_thrown : PySem.W.findIn K (.ref c_LifeObserver) "see_thrown" = some (some (.ref f_LifeObserver_see_thrown)))
    (i_LifeObserver_see_thrown : PySem.W.isFn K (.ref f_LifeObserver_see_thrown) = true)
    (l_LifeObserver_see_thrown : K.lookup f_LifeObserver_see_thrown = some ⟨oc_LifeObserver_see_thrown, od_LifeObserver_see_thrown, .func (PySem.W.fnOf "see_thrown" "LifeObserver.see_thrown" (defArgs s_LifeObserver_see_thrown) (defBody s_LifeObserver_see_thrown) (defScope s_LifeObserver_see_thrown) .none kV_LifeObserver_see_thrown dc_LifeObserver_see_thrown pm_LifeObserver_see_thrown an_LifeObserver_see_thrown cd_LifeObserver_see_thrown ct_LifeObserver_see_thrown), sl_LifeObserver_see_thrown⟩)
    (q_LifeObserver_see_thrown : PySem.W.codeIn K cd_LifeObserver_see_thrown "LifeObserver.see_thrown" = true)
    (k_LifeObserver_see_thrown : PySem.W.keepIn K (.ref f_LifeObserver_see_thrown) = true)
    (a_LifeObserver_see_stock : PySem.W.findIn K (.ref c_LifeObserver) "see_stock" = some (some (.ref f_LifeObserver_see_stock)))
    (i_LifeObserver_see_stock : PySem.W.isFn K (.ref f_LifeObserver_see_stock) = true)
    (l_LifeObserver_see_stock : K.lookup f_LifeObserver_see_stock = some ⟨oc_LifeObserver_see_stock, od_LifeObserver_see_stock, .func (PySem.W.fnOf "see_stock" "LifeObserver.see_stock" (defArgs s_LifeObserver_see_stock) (defBody s_LifeObserver_see_stock) (defScope s_LifeObserver_see_stock) .none kV_LifeObserver_see_stock dc_LifeObserver_see_stock pm_LifeObserver_see_stock an_LifeObserver_see_stock cd_LifeObserver_see_stock ct_LifeObserver_see_stock), sl_LifeObserver_see_stock⟩)
    (q_LifeObserver_see_stock : PySem.W.codeIn K cd_LifeObserver_see_stock "LifeObserver.see_stock" = true)
    (k_LifeObserver_see_stock : PySem.W.keepIn K (.ref f_LifeObserver_see_stock) = true)
    (a_LifeObserver__accept : PySem.W.findIn K (.ref c_LifeObserver) "_accept" = some (some (.ref f_LifeObserver__accept)))
    (i_LifeObserver__accept : PySem.W.isFn K (.ref f_LifeObserver__accept) = true)
    (l_LifeObserver__accept : K.lookup f_LifeObserver__accept = some ⟨oc_LifeObserver__accept, od_LifeObserver__accept, .func (PySem.W.fnOf "_accept" "LifeObserver._accept" (defArgs s_LifeObserver__accept) (defBody s_LifeObserver__accept) (defScope s_LifeObserver__accept) .none kV_LifeObserver__accept dc_LifeObserver__accept pm_LifeObserver__accept an_LifeObserver__accept cd_LifeObserver__accept ct_LifeObserver__accept), sl_LifeObserver__accept⟩)
    (q_LifeObserver__accept : PySem.W.codeIn K cd_LifeObserver__accept "LifeObserver._accept" = true)
    (k_LifeObserver__accept : PySem.W.keepIn K (.ref f_LifeObserver__accept) = true)
    (a__law_mix : PySem.W.nsIn K mainGlobals "_law_mix" = some (some (.ref f__law_mix)))
    (l__law_mix : K.lookup f__law_mix = some ⟨oc__law_mix, od__law_mix, .func (PySem.W.fnOf "_law_mix" "_law_mix" (defArgs s__law_mix) (defBody s__law_mix) (defScope s__law_mix) .none kV__law_mix dc__law_mix pm__law_mix an__law_mix cd__law_mix ct__law_mix), sl__law_mix⟩)
    (q__law_mix : PySem.W.codeIn K cd__law_mix "_law_mix" = true)
    (k__law_mix : PySem.W.keepIn K (.ref f__law_mix) = true)
    (a__law_next : PySem.W.nsIn K mainGlobals "_law_next" = some (some (.ref f__law_next)))
    (l__law_next : K.lookup f__law_next = some ⟨oc__law_next, od__law_next, .func (PySem.W.fnOf "_law_next" "_law_next" (defArgs s__law_next) (defBody s__law_next) (defScope s__law_next) .none kV__law_next dc__law_next pm__law_next an__law_next cd__law_next ct__law_next), sl__law_next⟩)
    (q__law_next : PySem.W.codeIn K cd__law_next "_law_next" = true)
    (k__law_next : PySem.W.keepIn K (.ref f__law_next) = true)
    (a__law_error : PySem.W.nsIn K mainGlobals "_law_error" = some (some (.ref f__law_error)))
    (l__law_error : K.lookup f__law_error = some ⟨oc__law_error, od__law_error, .func (PySem.W.fnOf "_law_error" "_law_error" (defArgs s__law_error) (defBody s__law_error) (defScope s__law_error) .none kV__law_error dc__law_error pm__law_error an__law_error cd__law_error ct__law_error), sl__law_error⟩)
    (q__law_error : PySem.W.codeIn K cd__law_error "_law_error" = true)
    (k__law_error : PySem.W.keepIn K (.ref f__law_error) = true)
    (a__law_amounts : PySem.W.nsIn K mainGlobals "_law_amounts" = some (some (.ref f__law_amounts)))
    (l__law_amounts : K.lookup f__law_amounts = some ⟨oc__law_amounts, od__law_amounts, .func (PySem.W.fnOf "_law_amounts" "_law_amounts" (defArgs s__law_amounts) (defBody s__law_amounts) (defScope s__law_amounts) .none kV__law_amounts dc__law_amounts pm__law_amounts an__law_amounts cd__law_amounts ct__law_amounts), sl__law_amounts⟩)
    (q__law_amounts : PySem.W.codeIn K cd__law_amounts "_law_amounts" = true)
    (k__law_amounts : PySem.W.keepIn K (.ref f__law_amounts) = true)
    (a__law_parts : PySem.W.nsIn K mainGlobals "_law_parts" = some (some (.ref f__law_parts)))
    (l__law_parts : K.lookup f__law_parts = some ⟨oc__law_parts, od__law_parts, .func (PySem.W.fnOf "_law_parts" "_law_parts" (defArgs s__law_parts) (defBody s__law_parts) (defScope s__law_parts) .none kV__law_parts dc__law_parts pm__law_parts an__law_parts cd__law_parts ct__law_parts), sl__law_parts⟩)
    (q__law_parts : PySem.W.codeIn K cd__law_parts "_law_parts" = true)
    (k__law_parts : PySem.W.keepIn K (.ref f__law_parts) = true)
    (a_law : PySem.W.nsIn K mainGlobals "law" = some (some (.ref f_law)))
    (l_law : K.lookup f_law = some ⟨oc_law, od_law, .func (PySem.W.fnOf "law" "law" (defArgs s_law) (defBody s_law) (defScope s_law) .none kV_law dc_law pm_law an_law (.ref ka_law) ct_law), sl_law⟩)
    (q_law : PySem.W.codeIn K (.ref ka_law) "law" = true)
    (lc_law : K.lookup ka_law = some ⟨oe_law, oo_law, .fields vc_law, os_law⟩)
    (he_law : vc_law[11]? = some (.ref tb_law))
    (ch_law : PySem.W.codeHdIn K ka_law tb_law = true)
    (nt_law : K.lookup tb_law = none)
    (ht_law : h.get? tb_law = some { cls := .none, data := .fields #[] })
    (k_law : PySem.W.keepIn K (.ref f_law) = true) :
    LamX.LawAtS l w K L2.CX0 13 63 "_law_script" mg fa h := by
  have e := hfa.symm.trans (PySem.W.mg_of X G a_law)
  cases e
  have B_InvalidBakery___init__ : Binds K (PySem.W.ksFn "__init__" "InvalidBakery.__init__" (defArgs s_InvalidBakery___init__) (defBody s_InvalidBakery___init__) (defScope s_InvalidBakery___init__) .none kV_InvalidBakery___init__ dc_InvalidBakery___init__ pm_InvalidBakery___init__ an_InvalidBakery___init__ (.ref ka_InvalidBakery___init__) ct_InvalidBakery___init__ cc_InvalidBakery___init__) p_InvalidBakery___init__ [] := Binds.all fun us hl => match us, hl with | [_, _, _], _ => rfl
  have B_InvalidDays___init__ : Binds K (PySem.W.ksFn "__init__" "InvalidDays.__init__" (defArgs s_InvalidDays___init__) (defBody s_InvalidDays___init__) (defScope s_InvalidDays___init__) .none kV_InvalidDays___init__ dc_InvalidDays___init__ pm_InvalidDays___init__ an_InvalidDays___init__ (.ref ka_InvalidDays___init__) ct_InvalidDays___init__ cc_InvalidDays___init__) p_InvalidDays___init__ [] := Binds.all fun us hl => match us, hl with | [_, _], _ => rfl
  have F_check_number := fun_mk (st := s_check_number) l_check_number q_check_number k_check_number
  have B_check_number := F_check_number.binds (ps := p_check_number) fun _ _ _ _ _ _ us hl => match us, hl with | [_, _, _], _ => rfl
  have F_count_keepable := fun_mk (st := s_count_keepable) l_count_keepable q_count_keepable k_count_keepable
  have B_count_keepable := F_count_keepable.binds (ps := p_count_keepable) fun _ _ _ _ _ _ us hl => match us, hl with | [_, _], _ => rfl
  have F_sum_repeated := fun_mk (st := s_sum_repeated) l_sum_repeated q_sum_repeated k_sum_repeated
  have B_sum_repeated := F_sum_repeated.binds (ps := p_sum_repeated) fun _ _ _ _ _ _ us hl => match us, hl with | [_, _], _ => rfl
  have F_Course___init__ := fun_mk (st := s_Course___init__) l_Course___init__ q_Course___init__ k_Course___init__
  have B_Course___init__ := F_Course___init__.binds (ps := p_Course___init__) fun _ _ _ _ _ _ us hl => match us, hl with | [_, _, _, _], _ => rfl
  have F_Course_stock_at := fun_mk (st := s_Course_stock_at) l_Course_stock_at q_Course_stock_at k_Course_stock_at
  have B_Course_stock_at := F_Course_stock_at.binds (ps := p_Course_stock_at) fun _ _ _ _ _ _ us hl => match us, hl with | [_, _], _ => rfl
  have F_Course_sales_on := fun_mk (st := s_Course_sales_on) l_Course_sales_on q_Course_sales_on k_Course_sales_on
  have B_Course_sales_on := F_Course_sales_on.binds (ps := p_Course_sales_on) fun _ _ _ _ _ _ us hl => match us, hl with | [_, _], _ => rfl
  have F_Course_sales_before := fun_mk (st := s_Course_sales_before) l_Course_sales_before q_Course_sales_before k_Course_sales_before
  have B_Course_sales_before := F_Course_sales_before.binds (ps := p_Course_sales_before) fun _ _ _ _ _ _ us hl => match us, hl with | [_, _], _ => rfl
  have F_Course_loaves_at := fun_mk (st := s_Course_loaves_at) l_Course_loaves_at q_Course_loaves_at k_Course_loaves_at
  have B_Course_loaves_at := F_Course_loaves_at.binds (ps := p_Course_loaves_at) fun _ _ _ _ _ _ us hl => match us, hl with | [_, _], _ => rfl
  have F_Course_find_settled := fun_mk (st := s_Course_find_settled) l_Course_find_settled q_Course_find_settled k_Course_find_settled
  have B_Course_find_settled := F_Course_find_settled.binds (ps := p_Course_find_settled) fun _ _ _ _ _ _ us hl => match us, hl with | [_], _ => rfl
  have F_Course_sum_settled_round := fun_mk (st := s_Course_sum_settled_round) l_Course_sum_settled_round q_Course_sum_settled_round k_Course_sum_settled_round
  have B_Course_sum_settled_round := F_Course_sum_settled_round.binds (ps := p_Course_sum_settled_round) fun _ _ _ _ _ _ us hl => match us, hl with | [_], _ => rfl
  have F_Course__play_round := fun_mk (st := s_Course__play_round) l_Course__play_round q_Course__play_round k_Course__play_round
  have B_Course__play_round := F_Course__play_round.binds (ps := p_Course__play_round) fun _ _ _ _ _ _ us hl => match us, hl with | [_, _], _ => rfl
  have F_Course__stocks_in := fun_mk (st := s_Course__stocks_in) l_Course__stocks_in q_Course__stocks_in k_Course__stocks_in
  have B_Course__stocks_in := F_Course__stocks_in.binds (ps := p_Course__stocks_in) fun _ _ _ _ _ _ us hl => match us, hl with | [_, _], _ => rfl
  have F_Course__misses_in := fun_mk (st := s_Course__misses_in) l_Course__misses_in q_Course__misses_in k_Course__misses_in
  have B_Course__misses_in := F_Course__misses_in.binds (ps := p_Course__misses_in) fun _ _ _ _ _ _ us hl => match us, hl with | [_, _], _ => rfl
  have F_Course__count_growing := fun_mk (st := s_Course__count_growing) l_Course__count_growing q_Course__count_growing k_Course__count_growing
  have B_Course__count_growing := F_Course__count_growing.binds (ps := p_Course__count_growing) fun _ _ _ _ _ _ us hl => match us, hl with | [_], _ => rfl
  have F_check_amounts := fun_mk (st := s_check_amounts) l_check_amounts q_check_amounts k_check_amounts
  have B_check_amounts := F_check_amounts.binds (ps := p_check_amounts) fun _ _ _ _ _ _ us hl => match us, hl with | [_, _], _ => rfl
  have F_check_life := fun_mk (st := s_check_life) l_check_life q_check_life k_check_life
  have B_check_life := F_check_life.binds (ps := p_check_life) fun _ _ _ _ _ _ us hl => match us, hl with | [_], _ => rfl
  have F_check_bakery := fun_mk (st := s_check_bakery) l_check_bakery q_check_bakery k_check_bakery
  have B_check_bakery := F_check_bakery.binds (ps := p_check_bakery) fun _ _ _ _ _ _ us hl => match us, hl with | [_, _, _], _ => rfl
  have F_Bakery___init__ := fun_mk (st := s_Bakery___init__) l_Bakery___init__ q_Bakery___init__ k_Bakery___init__
  have B_Bakery___init__ := F_Bakery___init__.binds (ps := p_Bakery___init__) fun _ _ _ _ _ _ us hl => match us, hl with | [_, _, _, _], _ => rfl
  have F_Bakery_bakes := fun_mk (st := s_Bakery_bakes) l_Bakery_bakes q_Bakery_bakes k_Bakery_bakes
  have B_Bakery_bakes := F_Bakery_bakes.binds (ps := p_Bakery_bakes) fun _ _ _ _ _ _ us hl => match us, hl with | [_], _ => rfl
  have F_Bakery_demands := fun_mk (st := s_Bakery_demands) l_Bakery_demands q_Bakery_demands k_Bakery_demands
  have B_Bakery_demands := F_Bakery_demands.binds (ps := p_Bakery_demands) fun _ _ _ _ _ _ us hl => match us, hl with | [_], _ => rfl
  have F_Bakery_life := fun_mk (st := s_Bakery_life) l_Bakery_life q_Bakery_life k_Bakery_life
  have B_Bakery_life := F_Bakery_life.binds (ps := p_Bakery_life) fun _ _ _ _ _ _ us hl => match us, hl with | [_], _ => rfl
  have F_Bakery_settled_day := fun_mk (st := s_Bakery_settled_day) l_Bakery_settled_day q_Bakery_settled_day k_Bakery_settled_day
  have B_Bakery_settled_day := F_Bakery_settled_day.binds (ps := p_Bakery_settled_day) fun _ _ _ _ _ _ us hl => match us, hl with | [_], _ => rfl
  have F_Bakery_long_run := fun_mk (st := s_Bakery_long_run) l_Bakery_long_run q_Bakery_long_run k_Bakery_long_run
  have B_Bakery_long_run := F_Bakery_long_run.binds (ps := p_Bakery_long_run) fun _ _ _ _ _ _ us hl => match us, hl with | [_], _ => rfl
  have F_Bakery_with_life := fun_mk (st := s_Bakery_with_life) l_Bakery_with_life q_Bakery_with_life k_Bakery_with_life
  have B_Bakery_with_life := F_Bakery_with_life.binds (ps := p_Bakery_with_life) fun _ _ _ _ _ _ us hl => match us, hl with | [_, _], _ => rfl
  have F_Bakery_baking_more := fun_mk (st := s_Bakery_baking_more) l_Bakery_baking_more q_Bakery_baking_more k_Bakery_baking_more
  have B_Bakery_baking_more := F_Bakery_baking_more.binds (ps := p_Bakery_baking_more) fun _ _ _ _ _ _ us hl => match us, hl with | [_, _], _ => rfl
  have F_Bakery_stock := fun_mk (st := s_Bakery_stock) l_Bakery_stock q_Bakery_stock k_Bakery_stock
  have B_Bakery_stock := F_Bakery_stock.binds (ps := p_Bakery_stock) fun _ _ _ _ _ _ us hl => match us, hl with | [_, _], _ => rfl
  have F_Bakery_sold := fun_mk (st := s_Bakery_sold) l_Bakery_sold q_Bakery_sold k_Bakery_sold
  have B_Bakery_sold := F_Bakery_sold.binds (ps := p_Bakery_sold) fun _ _ _ _ _ _ us hl => match us, hl with | [_, _], _ => rfl
  have F_Bakery_missed := fun_mk (st := s_Bakery_missed) l_Bakery_missed q_Bakery_missed k_Bakery_missed
  have B_Bakery_missed := F_Bakery_missed.binds (ps := p_Bakery_missed) fun _ _ _ _ _ _ us hl => match us, hl with | [_, _], _ => rfl
  have F_Bakery_thrown := fun_mk (st := s_Bakery_thrown) l_Bakery_thrown q_Bakery_thrown k_Bakery_thrown
  have B_Bakery_thrown := F_Bakery_thrown.binds (ps := p_Bakery_thrown) fun _ _ _ _ _ _ us hl => match us, hl with | [_, _], _ => rfl
  have F_Bakery_totals := fun_mk (st := s_Bakery_totals) l_Bakery_totals q_Bakery_totals k_Bakery_totals
  have B_Bakery_totals := F_Bakery_totals.binds (ps := p_Bakery_totals) fun _ _ _ _ _ _ us hl => match us, hl with | [_, _], _ => rfl
  have F_Bakery_shelf := fun_mk (st := s_Bakery_shelf) l_Bakery_shelf q_Bakery_shelf k_Bakery_shelf
  have B_Bakery_shelf := F_Bakery_shelf.binds (ps := p_Bakery_shelf) fun _ _ _ _ _ _ us hl => match us, hl with | [_, _], _ => rfl
  have F_sell_in_order := fun_mk (st := s_sell_in_order) l_sell_in_order q_sell_in_order k_sell_in_order
  have B_sell_in_order := F_sell_in_order.binds (ps := p_sell_in_order) fun _ _ _ _ _ _ us hl => match us, hl with | [_, _], _ => rfl
  have F_newest_first := fun_mk (st := s_newest_first) l_newest_first q_newest_first k_newest_first
  have B_newest_first := F_newest_first.binds (ps := p_newest_first) fun _ _ _ _ _ _ us hl => match us, hl with | [_, _], _ => rfl
  have F_find_loss := fun_mk (st := s_find_loss) l_find_loss q_find_loss k_find_loss
  have B_find_loss := F_find_loss.binds (ps := p_find_loss) fun _ _ _ _ _ _ us hl => match us, hl with | [_, _, _, _], _ => rfl
  have F_next_missed := fun_mk (st := s_next_missed) l_next_missed q_next_missed k_next_missed
  have B_next_missed := F_next_missed.binds (ps := p_next_missed) fun _ _ _ _ _ _ us hl => match us, hl with | [_, _], _ => rfl
  have F_next_thrown := fun_mk (st := s_next_thrown) l_next_thrown q_next_thrown k_next_thrown
  have B_next_thrown := F_next_thrown.binds (ps := p_next_thrown) fun _ _ _ _ _ _ us hl => match us, hl with | [_, _], _ => rfl
  have F_least_life := fun_mk (st := s_least_life) l_least_life q_least_life k_least_life
  have B_least_life := F_least_life.binds (ps := p_least_life) fun _ _ _ _ _ _ us hl => match us, hl with | [_, _], _ => rfl
  have F_least_baking := fun_mk (st := s_least_baking) l_least_baking q_least_baking k_least_baking
  have B_least_baking := F_least_baking.binds (ps := p_least_baking) fun _ _ _ _ _ _ us hl => match us, hl with | [_, _], _ => rfl
  have F_LifeObserver___init__ := fun_mk (st := s_LifeObserver___init__) l_LifeObserver___init__ q_LifeObserver___init__ k_LifeObserver___init__
  have B_LifeObserver___init__ := F_LifeObserver___init__.binds (ps := p_LifeObserver___init__) fun _ _ _ _ _ _ us hl => match us, hl with | [_, _, _], _ => rfl
  have F_LifeObserver_records := fun_mk (st := s_LifeObserver_records) l_LifeObserver_records q_LifeObserver_records k_LifeObserver_records
  have B_LifeObserver_records := F_LifeObserver_records.binds (ps := p_LifeObserver_records) fun _ _ _ _ _ _ us hl => match us, hl with | [_], _ => rfl
  have F_LifeObserver_see_sold := fun_mk (st := s_LifeObserver_see_sold) l_LifeObserver_see_sold q_LifeObserver_see_sold k_LifeObserver_see_sold
  have B_LifeObserver_see_sold := F_LifeObserver_see_sold.binds (ps := p_LifeObserver_see_sold) fun _ _ _ _ _ _ us hl => match us, hl with | [_, _, _], _ => rfl
  have F_LifeObserver_see_thrown := fun_mk (st := s_LifeObserver_see_thrown) l_LifeObserver_see_thrown q_LifeObserver_see_thrown k_LifeObserver_see_thrown
  have B_LifeObserver_see_thrown := F_LifeObserver_see_thrown.binds (ps := p_LifeObserver_see_thrown) fun _ _ _ _ _ _ us hl => match us, hl with | [_, _, _], _ => rfl
  have F_LifeObserver_see_stock := fun_mk (st := s_LifeObserver_see_stock) l_LifeObserver_see_stock q_LifeObserver_see_stock k_LifeObserver_see_stock
  have B_LifeObserver_see_stock := F_LifeObserver_see_stock.binds (ps := p_LifeObserver_see_stock) fun _ _ _ _ _ _ us hl => match us, hl with | [_, _, _], _ => rfl
  have F_LifeObserver__accept := fun_mk (st := s_LifeObserver__accept) l_LifeObserver__accept q_LifeObserver__accept k_LifeObserver__accept
  have B_LifeObserver__accept := F_LifeObserver__accept.binds (ps := p_LifeObserver__accept) fun _ _ _ _ _ _ us hl => match us, hl with | [_, _, _, _, _], _ => rfl
  have F__law_mix := fun_mk (st := s__law_mix) l__law_mix q__law_mix k__law_mix
  have B__law_mix := F__law_mix.binds (ps := p__law_mix) fun _ _ _ _ _ _ us hl => match us, hl with | [_, _], _ => rfl
  have F__law_next := fun_mk (st := s__law_next) l__law_next q__law_next k__law_next
  have B__law_next := F__law_next.binds (ps := p__law_next) fun _ _ _ _ _ _ us hl => match us, hl with | [_, _], _ => rfl
  have F__law_error := fun_mk (st := s__law_error) l__law_error q__law_error k__law_error
  have B__law_error := F__law_error.binds (ps := p__law_error) fun _ _ _ _ _ _ us hl => match us, hl with | [_], _ => rfl
  have F__law_amounts := fun_mk (st := s__law_amounts) l__law_amounts q__law_amounts k__law_amounts
  have B__law_amounts := F__law_amounts.binds (ps := p__law_amounts) fun _ _ _ _ _ _ us hl => match us, hl with | [_, _, _], _ => rfl
  have F__law_parts := fun_mk (st := s__law_parts) l__law_parts q__law_parts k__law_parts
  have B__law_parts := F__law_parts.binds (ps := p__law_parts) fun _ _ _ _ _ _ us hl => match us, hl with | [_, _, _], _ => rfl
  have F_law := fun_mk (st := s_law) l_law q_law k_law
  have B_law := F_law.binds (ps := p_law) fun _ _ _ _ _ _ us hl => match us, hl with | [_], _ => rfl
  have T : Txt K mg { c_Course := c_Course, mc_Course := .none, c_Bakery := c_Bakery, mc_Bakery := .type "type", c_LifeObserver := c_LifeObserver, mc_LifeObserver := .none, t_MOST_LOAVES := t_MOST_LOAVES, t_LAST_DAY := t_LAST_DAY, t_MOST_NEWEST_DAYS := t_MOST_NEWEST_DAYS, t_MOST_MISSED := t_MOST_MISSED, t_MISSED := t_MISSED, t_THROWN := t_THROWN, c_LoafError := c_LoafError, c_InvalidBakery := c_InvalidBakery, c_InvalidNumber := c_InvalidNumber, c_InvalidDays := c_InvalidDays, c_Contradiction := c_Contradiction, P := l.prog, f_InvalidBakery___init__ := f_InvalidBakery___init__, k_InvalidBakery___init__ := ka_InvalidBakery___init__, cc_InvalidBakery___init__ := cc_InvalidBakery___init__, d_InvalidBakery___init__ := PySem.W.ksFn "__init__" "InvalidBakery.__init__" (defArgs s_InvalidBakery___init__) (defBody s_InvalidBakery___init__) (defScope s_InvalidBakery___init__) .none kV_InvalidBakery___init__ dc_InvalidBakery___init__ pm_InvalidBakery___init__ an_InvalidBakery___init__ (.ref ka_InvalidBakery___init__) ct_InvalidBakery___init__ cc_InvalidBakery___init__, f_InvalidDays___init__ := f_InvalidDays___init__, k_InvalidDays___init__ := ka_InvalidDays___init__, cc_InvalidDays___init__ := cc_InvalidDays___init__, d_InvalidDays___init__ := PySem.W.ksFn "__init__" "InvalidDays.__init__" (defArgs s_InvalidDays___init__) (defBody s_InvalidDays___init__) (defScope s_InvalidDays___init__) .none kV_InvalidDays___init__ dc_InvalidDays___init__ pm_InvalidDays___init__ an_InvalidDays___init__ (.ref ka_InvalidDays___init__) ct_InvalidDays___init__ cc_InvalidDays___init__, f_check_number := f_check_number, d_check_number := PySem.W.fnOf "check_number" "check_number" (defArgs s_check_number) (defBody s_check_number) (defScope s_check_number) .none kV_check_number dc_check_number pm_check_number an_check_number cd_check_number ct_check_number, f_count_keepable := f_count_keepable, d_count_keepable := PySem.W.fnOf "count_keepable" "count_keepable" (defArgs s_count_keepable) (defBody s_count_keepable) (defScope s_count_keepable) .none kV_count_keepable dc_count_keepable pm_count_keepable an_count_keepable cd_count_keepable ct_count_keepable, f_sum_repeated := f_sum_repeated, d_sum_repeated := PySem.W.fnOf "sum_repeated" "sum_repeated" (defArgs s_sum_repeated) (defBody s_sum_repeated) (defScope s_sum_repeated) .none kV_sum_repeated dc_sum_repeated pm_sum_repeated an_sum_repeated cd_sum_repeated ct_sum_repeated, f_Course___init__ := f_Course___init__, d_Course___init__ := PySem.W.fnOf "__init__" "Course.__init__" (defArgs s_Course___init__) (defBody s_Course___init__) (defScope s_Course___init__) .none kV_Course___init__ dc_Course___init__ pm_Course___init__ an_Course___init__ cd_Course___init__ ct_Course___init__, f_Course_stock_at := f_Course_stock_at, d_Course_stock_at := PySem.W.fnOf "stock_at" "Course.stock_at" (defArgs s_Course_stock_at) (defBody s_Course_stock_at) (defScope s_Course_stock_at) .none kV_Course_stock_at dc_Course_stock_at pm_Course_stock_at an_Course_stock_at cd_Course_stock_at ct_Course_stock_at, f_Course_sales_on := f_Course_sales_on, d_Course_sales_on := PySem.W.fnOf "sales_on" "Course.sales_on" (defArgs s_Course_sales_on) (defBody s_Course_sales_on) (defScope s_Course_sales_on) .none kV_Course_sales_on dc_Course_sales_on pm_Course_sales_on an_Course_sales_on cd_Course_sales_on ct_Course_sales_on, f_Course_sales_before := f_Course_sales_before, d_Course_sales_before := PySem.W.fnOf "sales_before" "Course.sales_before" (defArgs s_Course_sales_before) (defBody s_Course_sales_before) (defScope s_Course_sales_before) .none kV_Course_sales_before dc_Course_sales_before pm_Course_sales_before an_Course_sales_before cd_Course_sales_before ct_Course_sales_before, f_Course_loaves_at := f_Course_loaves_at, d_Course_loaves_at := PySem.W.fnOf "loaves_at" "Course.loaves_at" (defArgs s_Course_loaves_at) (defBody s_Course_loaves_at) (defScope s_Course_loaves_at) .none kV_Course_loaves_at dc_Course_loaves_at pm_Course_loaves_at an_Course_loaves_at cd_Course_loaves_at ct_Course_loaves_at, f_Course_find_settled := f_Course_find_settled, d_Course_find_settled := PySem.W.fnOf "find_settled" "Course.find_settled" (defArgs s_Course_find_settled) (defBody s_Course_find_settled) (defScope s_Course_find_settled) .none kV_Course_find_settled dc_Course_find_settled pm_Course_find_settled an_Course_find_settled cd_Course_find_settled ct_Course_find_settled, f_Course_sum_settled_round := f_Course_sum_settled_round, d_Course_sum_settled_round := PySem.W.fnOf "sum_settled_round" "Course.sum_settled_round" (defArgs s_Course_sum_settled_round) (defBody s_Course_sum_settled_round) (defScope s_Course_sum_settled_round) .none kV_Course_sum_settled_round dc_Course_sum_settled_round pm_Course_sum_settled_round an_Course_sum_settled_round cd_Course_sum_settled_round ct_Course_sum_settled_round, f_Course__play_round := f_Course__play_round, d_Course__play_round := PySem.W.fnOf "_play_round" "Course._play_round" (defArgs s_Course__play_round) (defBody s_Course__play_round) (defScope s_Course__play_round) .none kV_Course__play_round dc_Course__play_round pm_Course__play_round an_Course__play_round cd_Course__play_round ct_Course__play_round, f_Course__stocks_in := f_Course__stocks_in, d_Course__stocks_in := PySem.W.fnOf "_stocks_in" "Course._stocks_in" (defArgs s_Course__stocks_in) (defBody s_Course__stocks_in) (defScope s_Course__stocks_in) .none kV_Course__stocks_in dc_Course__stocks_in pm_Course__stocks_in an_Course__stocks_in cd_Course__stocks_in ct_Course__stocks_in, f_Course__misses_in := f_Course__misses_in, d_Course__misses_in := PySem.W.fnOf "_misses_in" "Course._misses_in" (defArgs s_Course__misses_in) (defBody s_Course__misses_in) (defScope s_Course__misses_in) .none kV_Course__misses_in dc_Course__misses_in pm_Course__misses_in an_Course__misses_in cd_Course__misses_in ct_Course__misses_in, f_Course__count_growing := f_Course__count_growing, d_Course__count_growing := PySem.W.fnOf "_count_growing" "Course._count_growing" (defArgs s_Course__count_growing) (defBody s_Course__count_growing) (defScope s_Course__count_growing) .none kV_Course__count_growing dc_Course__count_growing pm_Course__count_growing an_Course__count_growing cd_Course__count_growing ct_Course__count_growing, f_check_amounts := f_check_amounts, d_check_amounts := PySem.W.fnOf "check_amounts" "check_amounts" (defArgs s_check_amounts) (defBody s_check_amounts) (defScope s_check_amounts) .none kV_check_amounts dc_check_amounts pm_check_amounts an_check_amounts cd_check_amounts ct_check_amounts, f_check_life := f_check_life, d_check_life := PySem.W.fnOf "check_life" "check_life" (defArgs s_check_life) (defBody s_check_life) (defScope s_check_life) .none kV_check_life dc_check_life pm_check_life an_check_life cd_check_life ct_check_life, f_check_bakery := f_check_bakery, d_check_bakery := PySem.W.fnOf "check_bakery" "check_bakery" (defArgs s_check_bakery) (defBody s_check_bakery) (defScope s_check_bakery) .none kV_check_bakery dc_check_bakery pm_check_bakery an_check_bakery cd_check_bakery ct_check_bakery, f_Bakery___init__ := f_Bakery___init__, d_Bakery___init__ := PySem.W.fnOf "__init__" "Bakery.__init__" (defArgs s_Bakery___init__) (defBody s_Bakery___init__) (defScope s_Bakery___init__) .none kV_Bakery___init__ dc_Bakery___init__ pm_Bakery___init__ an_Bakery___init__ cd_Bakery___init__ ct_Bakery___init__, f_Bakery_bakes := f_Bakery_bakes, d_Bakery_bakes := PySem.W.fnOf "bakes" "Bakery.bakes" (defArgs s_Bakery_bakes) (defBody s_Bakery_bakes) (defScope s_Bakery_bakes) .none kV_Bakery_bakes dc_Bakery_bakes pm_Bakery_bakes an_Bakery_bakes cd_Bakery_bakes ct_Bakery_bakes, pr_Bakery_bakes := pr_Bakery_bakes, f_Bakery_demands := f_Bakery_demands, d_Bakery_demands := PySem.W.fnOf "demands" "Bakery.demands" (defArgs s_Bakery_demands) (defBody s_Bakery_demands) (defScope s_Bakery_demands) .none kV_Bakery_demands dc_Bakery_demands pm_Bakery_demands an_Bakery_demands cd_Bakery_demands ct_Bakery_demands, pr_Bakery_demands := pr_Bakery_demands, f_Bakery_life := f_Bakery_life, d_Bakery_life := PySem.W.fnOf "life" "Bakery.life" (defArgs s_Bakery_life) (defBody s_Bakery_life) (defScope s_Bakery_life) .none kV_Bakery_life dc_Bakery_life pm_Bakery_life an_Bakery_life cd_Bakery_life ct_Bakery_life, pr_Bakery_life := pr_Bakery_life, f_Bakery_settled_day := f_Bakery_settled_day, d_Bakery_settled_day := PySem.W.fnOf "settled_day" "Bakery.settled_day" (defArgs s_Bakery_settled_day) (defBody s_Bakery_settled_day) (defScope s_Bakery_settled_day) .none kV_Bakery_settled_day dc_Bakery_settled_day pm_Bakery_settled_day an_Bakery_settled_day cd_Bakery_settled_day ct_Bakery_settled_day, pr_Bakery_settled_day := pr_Bakery_settled_day, f_Bakery_long_run := f_Bakery_long_run, d_Bakery_long_run := PySem.W.fnOf "long_run" "Bakery.long_run" (defArgs s_Bakery_long_run) (defBody s_Bakery_long_run) (defScope s_Bakery_long_run) .none kV_Bakery_long_run dc_Bakery_long_run pm_Bakery_long_run an_Bakery_long_run cd_Bakery_long_run ct_Bakery_long_run, pr_Bakery_long_run := pr_Bakery_long_run, f_Bakery_with_life := f_Bakery_with_life, d_Bakery_with_life := PySem.W.fnOf "with_life" "Bakery.with_life" (defArgs s_Bakery_with_life) (defBody s_Bakery_with_life) (defScope s_Bakery_with_life) .none kV_Bakery_with_life dc_Bakery_with_life pm_Bakery_with_life an_Bakery_with_life cd_Bakery_with_life ct_Bakery_with_life, f_Bakery_baking_more := f_Bakery_baking_more, d_Bakery_baking_more := PySem.W.fnOf "baking_more" "Bakery.baking_more" (defArgs s_Bakery_baking_more) (defBody s_Bakery_baking_more) (defScope s_Bakery_baking_more) .none kV_Bakery_baking_more dc_Bakery_baking_more pm_Bakery_baking_more an_Bakery_baking_more cd_Bakery_baking_more ct_Bakery_baking_more, f_Bakery_stock := f_Bakery_stock, d_Bakery_stock := PySem.W.fnOf "stock" "Bakery.stock" (defArgs s_Bakery_stock) (defBody s_Bakery_stock) (defScope s_Bakery_stock) .none kV_Bakery_stock dc_Bakery_stock pm_Bakery_stock an_Bakery_stock cd_Bakery_stock ct_Bakery_stock, f_Bakery_sold := f_Bakery_sold, d_Bakery_sold := PySem.W.fnOf "sold" "Bakery.sold" (defArgs s_Bakery_sold) (defBody s_Bakery_sold) (defScope s_Bakery_sold) .none kV_Bakery_sold dc_Bakery_sold pm_Bakery_sold an_Bakery_sold cd_Bakery_sold ct_Bakery_sold, f_Bakery_missed := f_Bakery_missed, d_Bakery_missed := PySem.W.fnOf "missed" "Bakery.missed" (defArgs s_Bakery_missed) (defBody s_Bakery_missed) (defScope s_Bakery_missed) .none kV_Bakery_missed dc_Bakery_missed pm_Bakery_missed an_Bakery_missed cd_Bakery_missed ct_Bakery_missed, f_Bakery_thrown := f_Bakery_thrown, d_Bakery_thrown := PySem.W.fnOf "thrown" "Bakery.thrown" (defArgs s_Bakery_thrown) (defBody s_Bakery_thrown) (defScope s_Bakery_thrown) .none kV_Bakery_thrown dc_Bakery_thrown pm_Bakery_thrown an_Bakery_thrown cd_Bakery_thrown ct_Bakery_thrown, f_Bakery_totals := f_Bakery_totals, d_Bakery_totals := PySem.W.fnOf "totals" "Bakery.totals" (defArgs s_Bakery_totals) (defBody s_Bakery_totals) (defScope s_Bakery_totals) .none kV_Bakery_totals dc_Bakery_totals pm_Bakery_totals an_Bakery_totals cd_Bakery_totals ct_Bakery_totals, f_Bakery_shelf := f_Bakery_shelf, d_Bakery_shelf := PySem.W.fnOf "shelf" "Bakery.shelf" (defArgs s_Bakery_shelf) (defBody s_Bakery_shelf) (defScope s_Bakery_shelf) .none kV_Bakery_shelf dc_Bakery_shelf pm_Bakery_shelf an_Bakery_shelf cd_Bakery_shelf ct_Bakery_shelf, f_sell_in_order := f_sell_in_order, d_sell_in_order := PySem.W.fnOf "sell_in_order" "sell_in_order" (defArgs s_sell_in_order) (defBody s_sell_in_order) (defScope s_sell_in_order) .none kV_sell_in_order dc_sell_in_order pm_sell_in_order an_sell_in_order cd_sell_in_order ct_sell_in_order, f_newest_first := f_newest_first, d_newest_first := PySem.W.fnOf "newest_first" "newest_first" (defArgs s_newest_first) (defBody s_newest_first) (defScope s_newest_first) .none kV_newest_first dc_newest_first pm_newest_first an_newest_first cd_newest_first ct_newest_first, f_find_loss := f_find_loss, d_find_loss := PySem.W.fnOf "find_loss" "find_loss" (defArgs s_find_loss) (defBody s_find_loss) (defScope s_find_loss) .none kV_find_loss dc_find_loss pm_find_loss an_find_loss cd_find_loss ct_find_loss, f_next_missed := f_next_missed, d_next_missed := PySem.W.fnOf "next_missed" "next_missed" (defArgs s_next_missed) (defBody s_next_missed) (defScope s_next_missed) .none kV_next_missed dc_next_missed pm_next_missed an_next_missed cd_next_missed ct_next_missed, f_next_thrown := f_next_thrown, d_next_thrown := PySem.W.fnOf "next_thrown" "next_thrown" (defArgs s_next_thrown) (defBody s_next_thrown) (defScope s_next_thrown) .none kV_next_thrown dc_next_thrown pm_next_thrown an_next_thrown cd_next_thrown ct_next_thrown, f_least_life := f_least_life, d_least_life := PySem.W.fnOf "least_life" "least_life" (defArgs s_least_life) (defBody s_least_life) (defScope s_least_life) .none kV_least_life dc_least_life pm_least_life an_least_life cd_least_life ct_least_life, f_least_baking := f_least_baking, d_least_baking := PySem.W.fnOf "least_baking" "least_baking" (defArgs s_least_baking) (defBody s_least_baking) (defScope s_least_baking) .none kV_least_baking dc_least_baking pm_least_baking an_least_baking cd_least_baking ct_least_baking, f_LifeObserver___init__ := f_LifeObserver___init__, d_LifeObserver___init__ := PySem.W.fnOf "__init__" "LifeObserver.__init__" (defArgs s_LifeObserver___init__) (defBody s_LifeObserver___init__) (defScope s_LifeObserver___init__) .none kV_LifeObserver___init__ dc_LifeObserver___init__ pm_LifeObserver___init__ an_LifeObserver___init__ cd_LifeObserver___init__ ct_LifeObserver___init__, f_LifeObserver_records := f_LifeObserver_records, d_LifeObserver_records := PySem.W.fnOf "records" "LifeObserver.records" (defArgs s_LifeObserver_records) (defBody s_LifeObserver_records) (defScope s_LifeObserver_records) .none kV_LifeObserver_records dc_LifeObserver_records pm_LifeObserver_records an_LifeObserver_records cd_LifeObserver_records ct_LifeObserver_records, pr_LifeObserver_records := pr_LifeObserver_records, f_LifeObserver_see_sold := f_LifeObserver_see_sold, d_LifeObserver_see_sold := PySem.W.fnOf "see_sold" "LifeObserver.see_sold" (defArgs s_LifeObserver_see_sold) (defBody s_LifeObserver_see_sold) (defScope s_LifeObserver_see_sold) .none kV_LifeObserver_see_sold dc_LifeObserver_see_sold pm_LifeObserver_see_sold an_LifeObserver_see_sold cd_LifeObserver_see_sold ct_LifeObserver_see_sold, f_LifeObserver_see_thrown := f_LifeObserver_see_thrown, d_LifeObserver_see_thrown := PySem.W.fnOf "see_thrown" "LifeObserver.see_thrown" (defArgs s_LifeObserver_see_thrown) (defBody s_LifeObserver_see_thrown) (defScope s_LifeObserver_see_thrown) .none kV_LifeObserver_see_thrown dc_LifeObserver_see_thrown pm_LifeObserver_see_thrown an_LifeObserver_see_thrown cd_LifeObserver_see_thrown ct_LifeObserver_see_thrown, f_LifeObserver_see_stock := f_LifeObserver_see_stock, d_LifeObserver_see_stock := PySem.W.fnOf "see_stock" "LifeObserver.see_stock" (defArgs s_LifeObserver_see_stock) (defBody s_LifeObserver_see_stock) (defScope s_LifeObserver_see_stock) .none kV_LifeObserver_see_stock dc_LifeObserver_see_stock pm_LifeObserver_see_stock an_LifeObserver_see_stock cd_LifeObserver_see_stock ct_LifeObserver_see_stock, f_LifeObserver__accept := f_LifeObserver__accept, d_LifeObserver__accept := PySem.W.fnOf "_accept" "LifeObserver._accept" (defArgs s_LifeObserver__accept) (defBody s_LifeObserver__accept) (defScope s_LifeObserver__accept) .none kV_LifeObserver__accept dc_LifeObserver__accept pm_LifeObserver__accept an_LifeObserver__accept cd_LifeObserver__accept ct_LifeObserver__accept, f__law_mix := f__law_mix, d__law_mix := PySem.W.fnOf "_law_mix" "_law_mix" (defArgs s__law_mix) (defBody s__law_mix) (defScope s__law_mix) .none kV__law_mix dc__law_mix pm__law_mix an__law_mix cd__law_mix ct__law_mix, f__law_next := f__law_next, d__law_next := PySem.W.fnOf "_law_next" "_law_next" (defArgs s__law_next) (defBody s__law_next) (defScope s__law_next) .none kV__law_next dc__law_next pm__law_next an__law_next cd__law_next ct__law_next, f__law_error := f__law_error, d__law_error := PySem.W.fnOf "_law_error" "_law_error" (defArgs s__law_error) (defBody s__law_error) (defScope s__law_error) .none kV__law_error dc__law_error pm__law_error an__law_error cd__law_error ct__law_error, f__law_amounts := f__law_amounts, d__law_amounts := PySem.W.fnOf "_law_amounts" "_law_amounts" (defArgs s__law_amounts) (defBody s__law_amounts) (defScope s__law_amounts) .none kV__law_amounts dc__law_amounts pm__law_amounts an__law_amounts cd__law_amounts ct__law_amounts, f__law_parts := f__law_parts, d__law_parts := PySem.W.fnOf "_law_parts" "_law_parts" (defArgs s__law_parts) (defBody s__law_parts) (defScope s__law_parts) .none kV__law_parts dc__law_parts pm__law_parts an__law_parts cd__law_parts ct__law_parts, k_law := ka_law, tb_law := tb_law, f_law := fa, d_law := PySem.W.fnOf "law" "law" (defArgs s_law) (defBody s_law) (defScope s_law) .none kV_law dc_law pm_law an_law (.ref ka_law) ct_law } :=
    { g_Course := PySem.W.mg_of X G g_Course,
      cl_Course := ⟨pg_Course, hd_Course, po_Course, sa_Course⟩,
      g_Bakery := PySem.W.mg_of X G g_Bakery,
      cl_Bakery := ⟨pg_Bakery, hd_Bakery, po_Bakery, sa_Bakery⟩,
      g_LifeObserver := PySem.W.mg_of X G g_LifeObserver,
      cl_LifeObserver := ⟨pg_LifeObserver, hd_LifeObserver, po_LifeObserver, sa_LifeObserver⟩,
      na_Course__bakes := na_Course__bakes,
      na_Course__demands := na_Course__demands,
      na_Course__keepable := na_Course__keepable,
      na_Course__gain := na_Course__gain,
      na_Course__first_end := na_Course__first_end,
      na_Course__full_end := na_Course__full_end,
      na_Course__first_misses := na_Course__first_misses,
      na_Course__later_misses := na_Course__later_misses,
      na_Bakery__bakes := na_Bakery__bakes,
      na_Bakery__demands := na_Bakery__demands,
      na_Bakery__life := na_Bakery__life,
      na_Bakery_course := na_Bakery_course,
      na_Bakery__settled_day := na_Bakery__settled_day,
      na_Bakery__long_run := na_Bakery__long_run,
      cv_Bakery_MAX_DAYS := ⟨⟨rd_Bakery, gt_Bakery⟩, _, ⟨cv_Bakery_MAX_DAYS, ⟨_, rfl⟩⟩⟩,
      cn_Bakery_MAX_LIFE := ⟨_, ⟨cn_Bakery_MAX_LIFE, ⟨_, rfl⟩, sp_cn_Bakery_MAX_LIFE, by decide +kernel⟩⟩,
      cv_Bakery_MAX_LIFE := ⟨⟨rd_Bakery, gt_Bakery⟩, _, ⟨cv_Bakery_MAX_LIFE, ⟨_, rfl⟩⟩⟩,
      na_LifeObserver__fitting := na_LifeObserver__fitting,
      na_LifeObserver__accepted := na_LifeObserver__accepted,
      g_MOST_LOAVES := PySem.W.mg_of X G g_MOST_LOAVES,
      g_LAST_DAY := PySem.W.mg_of X G g_LAST_DAY,
      g_MOST_NEWEST_DAYS := PySem.W.mg_of X G g_MOST_NEWEST_DAYS,
      g_MOST_MISSED := PySem.W.mg_of X G g_MOST_MISSED,
      g_MISSED := PySem.W.mg_of X G g_MISSED,
      g_THROWN := PySem.W.mg_of X G g_THROWN,
      b_ValueError := PySem.W.mg_none_of X G b_ValueError,
      b_divmod := PySem.W.mg_none_of X G b_divmod,
      b_enumerate := PySem.W.mg_none_of X G b_enumerate,
      b_int := PySem.W.mg_none_of X G b_int,
      b_isinstance := PySem.W.mg_none_of X G b_isinstance,
      b_len := PySem.W.mg_none_of X G b_len,
      b_list := PySem.W.mg_none_of X G b_list,
      b_max := PySem.W.mg_none_of X G b_max,
      b_min := PySem.W.mg_none_of X G b_min,
      b_range := PySem.W.mg_none_of X G b_range,
      b_sum := PySem.W.mg_none_of X G b_sum,
      b_super := PySem.W.mg_none_of X G b_super,
      b_tuple := PySem.W.mg_none_of X G b_tuple,
      b_zip := PySem.W.mg_none_of X G b_zip,
      g_LoafError := PySem.W.mg_of X G g_LoafError,
      g_InvalidBakery := PySem.W.mg_of X G g_InvalidBakery,
      g_InvalidNumber := PySem.W.mg_of X G g_InvalidNumber,
      g_InvalidDays := PySem.W.mg_of X G g_InvalidDays,
      g_Contradiction := PySem.W.mg_of X G g_Contradiction,
      xp_InvalidNumber := xp_InvalidNumber,
      xq_InvalidNumber := xq_InvalidNumber,
      xb_InvalidNumber := xb_InvalidNumber,
      xy_InvalidNumber := xy_InvalidNumber,
      xv_InvalidNumber := xv_InvalidNumber,
      xk_InvalidNumber_InvalidBakery := xk_InvalidNumber_InvalidBakery,
      xk_InvalidNumber_InvalidNumber := xk_InvalidNumber_InvalidNumber,
      xk_InvalidNumber_InvalidDays := xk_InvalidNumber_InvalidDays,
      xk_InvalidNumber_Contradiction := xk_InvalidNumber_Contradiction,
      xI_InvalidNumber := ⟨xic_InvalidNumber, xga_InvalidNumber, xgg_InvalidNumber, xb_InvalidNumber, xhd_InvalidNumber, xca_InvalidNumber, xe_cg, xe_ct, xmo_InvalidNumber⟩,
      xm_InvalidNumber := PySem.W.exm_ref xe_base xe_dict xe_type sL_InvalidNumber,
      xp_Contradiction := xp_Contradiction,
      xq_Contradiction := xq_Contradiction,
      xb_Contradiction := xb_Contradiction,
      xy_Contradiction := xy_Contradiction,
      xv_Contradiction := xv_Contradiction,
      xk_Contradiction_InvalidBakery := xk_Contradiction_InvalidBakery,
      xk_Contradiction_InvalidNumber := xk_Contradiction_InvalidNumber,
      xk_Contradiction_InvalidDays := xk_Contradiction_InvalidDays,
      xk_Contradiction_Contradiction := xk_Contradiction_Contradiction,
      xI_Contradiction := ⟨xic_Contradiction, xga_Contradiction, xgg_Contradiction, xb_Contradiction, xhd_Contradiction, xca_Contradiction, xe_cg, xe_ct, xmo_Contradiction⟩,
      xm_Contradiction := PySem.W.exm_ref xe_base xe_dict xe_type sL_Contradiction,
      xk_InvalidBakery_InvalidBakery := xk_InvalidBakery_InvalidBakery,
      xk_InvalidBakery_InvalidNumber := xk_InvalidBakery_InvalidNumber,
      xk_InvalidBakery_InvalidDays := xk_InvalidBakery_InvalidDays,
      xk_InvalidBakery_Contradiction := xk_InvalidBakery_Contradiction,
      na_InvalidBakery_part := na_InvalidBakery_part,
      na_InvalidBakery_index := na_InvalidBakery_index,
      xv_InvalidBakery := xv_InvalidBakery,
      ox_InvalidBakery := ⟨⟨_, _, _, _, _, _, _, _, _, _, _, _, _, _, _, xL_InvalidBakery, xr_InvalidBakery⟩, xsa_InvalidBakery, xeC_InvalidBakery, xtC_InvalidBakery, xkC_InvalidBakery⟩,
      xi_InvalidBakery := xi_InvalidBakery,
      xt_InvalidBakery := xt_InvalidBakery,
      xs_InvalidBakery := ⟨⟨_, _, _, _, _, _, _, _, rfl, l_InvalidBakery___init__, q_InvalidBakery___init__⟩, ⟨_, _, _, _, _, _, lk_InvalidBakery___init__, vf_InvalidBakery___init__, fi_InvalidBakery___init__⟩, ⟨_, _, _, ce_InvalidBakery___init__⟩, xe_any, su_InvalidBakery___init__, sb_InvalidBakery___init__, sv_InvalidBakery___init__, xe_top⟩,
      xI_InvalidBakery := ⟨xic_InvalidBakery, xga_InvalidBakery, xgg_InvalidBakery, xeC_InvalidBakery, xhd_InvalidBakery, xca_InvalidBakery, xe_cg, xe_ct, xmo_InvalidBakery⟩,
      xm_InvalidBakery := PySem.W.exm_ref xe_base xe_dict xe_type sL_InvalidBakery___init__,
      b_InvalidBakery___init__ := B_InvalidBakery___init__,
      xk_InvalidDays_InvalidBakery := xk_InvalidDays_InvalidBakery,
      xk_InvalidDays_InvalidNumber := xk_InvalidDays_InvalidNumber,
      xk_InvalidDays_InvalidDays := xk_InvalidDays_InvalidDays,
      xk_InvalidDays_Contradiction := xk_InvalidDays_Contradiction,
      na_InvalidDays_index := na_InvalidDays_index,
      xv_InvalidDays := xv_InvalidDays,
      ox_InvalidDays := ⟨⟨_, _, _, _, _, _, _, _, _, _, _, _, _, _, _, xL_InvalidDays, xr_InvalidDays⟩, xsa_InvalidDays, xeC_InvalidDays, xtC_InvalidDays, xkC_InvalidDays⟩,
      xi_InvalidDays := xi_InvalidDays,
      xt_InvalidDays := xt_InvalidDays,
      xs_InvalidDays := ⟨⟨_, _, _, _, _, _, _, _, rfl, l_InvalidDays___init__, q_InvalidDays___init__⟩, ⟨_, _, _, _, _, _, lk_InvalidDays___init__, vf_InvalidDays___init__, fi_InvalidDays___init__⟩, ⟨_, _, _, ce_InvalidDays___init__⟩, xe_any, su_InvalidDays___init__, sb_InvalidDays___init__, sv_InvalidDays___init__, xe_top⟩,
      xI_InvalidDays := ⟨xic_InvalidDays, xga_InvalidDays, xgg_InvalidDays, xeC_InvalidDays, xhd_InvalidDays, xca_InvalidDays, xe_cg, xe_ct, xmo_InvalidDays⟩,
      xm_InvalidDays := PySem.W.exm_ref xe_base xe_dict xe_type sL_InvalidDays___init__,
      b_InvalidDays___init__ := B_InvalidDays___init__,
      g_check_number := PySem.W.mg_of X G a_check_number,
      F_check_number := F_check_number,
      b_check_number := B_check_number,
      g_count_keepable := PySem.W.mg_of X G a_count_keepable,
      F_count_keepable := F_count_keepable,
      b_count_keepable := B_count_keepable,
      g_sum_repeated := PySem.W.mg_of X G a_sum_repeated,
      F_sum_repeated := F_sum_repeated,
      b_sum_repeated := B_sum_repeated,
      mk_Course := ⟨mk_Course, a_Course___init__, i_Course___init__, kc_Course⟩,
      F_Course___init__ := F_Course___init__,
      b_Course___init__ := B_Course___init__,
      m_Course_stock_at := ⟨a_Course_stock_at, i_Course_stock_at, k_Course_stock_at⟩,
      F_Course_stock_at := F_Course_stock_at,
      b_Course_stock_at := B_Course_stock_at,
      m_Course_sales_on := ⟨a_Course_sales_on, i_Course_sales_on, k_Course_sales_on⟩,
      F_Course_sales_on := F_Course_sales_on,
      b_Course_sales_on := B_Course_sales_on,
      m_Course_sales_before := ⟨a_Course_sales_before, i_Course_sales_before, k_Course_sales_before⟩,
      F_Course_sales_before := F_Course_sales_before,
      b_Course_sales_before := B_Course_sales_before,
      m_Course_loaves_at := ⟨a_Course_loaves_at, i_Course_loaves_at, k_Course_loaves_at⟩,
      F_Course_loaves_at := F_Course_loaves_at,
      b_Course_loaves_at := B_Course_loaves_at,
      m_Course_find_settled := ⟨a_Course_find_settled, i_Course_find_settled, k_Course_find_settled⟩,
      F_Course_find_settled := F_Course_find_settled,
      b_Course_find_settled := B_Course_find_settled,
      m_Course_sum_settled_round := ⟨a_Course_sum_settled_round, i_Course_sum_settled_round, k_Course_sum_settled_round⟩,
      F_Course_sum_settled_round := F_Course_sum_settled_round,
      b_Course_sum_settled_round := B_Course_sum_settled_round,
      m_Course__play_round := ⟨a_Course__play_round, i_Course__play_round, k_Course__play_round⟩,
      F_Course__play_round := F_Course__play_round,
      b_Course__play_round := B_Course__play_round,
      m_Course__stocks_in := ⟨a_Course__stocks_in, i_Course__stocks_in, k_Course__stocks_in⟩,
      F_Course__stocks_in := F_Course__stocks_in,
      b_Course__stocks_in := B_Course__stocks_in,
      m_Course__misses_in := ⟨a_Course__misses_in, i_Course__misses_in, k_Course__misses_in⟩,
      F_Course__misses_in := F_Course__misses_in,
      b_Course__misses_in := B_Course__misses_in,
      m_Course__count_growing := ⟨a_Course__count_growing, i_Course__count_growing, k_Course__count_growing⟩,
      F_Course__count_growing := F_Course__count_growing,
      b_Course__count_growing := B_Course__count_growing,
      g_check_amounts := PySem.W.mg_of X G a_check_amounts,
      F_check_amounts := F_check_amounts,
      b_check_amounts := B_check_amounts,
      g_check_life := PySem.W.mg_of X G a_check_life,
      F_check_life := F_check_life,
      b_check_life := B_check_life,
      g_check_bakery := PySem.W.mg_of X G a_check_bakery,
      F_check_bakery := F_check_bakery,
      b_check_bakery := B_check_bakery,
      mk_Bakery := ⟨mk_Bakery, a_Bakery___init__, i_Bakery___init__, kc_Bakery⟩,
      F_Bakery___init__ := F_Bakery___init__,
      b_Bakery___init__ := B_Bakery___init__,
      pp_Bakery_bakes := ⟨a_Bakery_bakes, pg_Bakery_bakes, pt_Bakery_bakes, ⟨_, pr1_Bakery_bakes⟩⟩,
      F_Bakery_bakes := F_Bakery_bakes,
      b_Bakery_bakes := B_Bakery_bakes,
      pp_Bakery_demands := ⟨a_Bakery_demands, pg_Bakery_demands, pt_Bakery_demands, ⟨_, pr1_Bakery_demands⟩⟩,
      F_Bakery_demands := F_Bakery_demands,
      b_Bakery_demands := B_Bakery_demands,
      pp_Bakery_life := ⟨a_Bakery_life, pg_Bakery_life, pt_Bakery_life, ⟨_, pr1_Bakery_life⟩⟩,
      F_Bakery_life := F_Bakery_life,
      b_Bakery_life := B_Bakery_life,
      pp_Bakery_settled_day := ⟨a_Bakery_settled_day, pg_Bakery_settled_day, pt_Bakery_settled_day, ⟨_, pr1_Bakery_settled_day⟩⟩,
      F_Bakery_settled_day := F_Bakery_settled_day,
      b_Bakery_settled_day := B_Bakery_settled_day,
      pp_Bakery_long_run := ⟨a_Bakery_long_run, pg_Bakery_long_run, pt_Bakery_long_run, ⟨_, pr1_Bakery_long_run⟩⟩,
      F_Bakery_long_run := F_Bakery_long_run,
      b_Bakery_long_run := B_Bakery_long_run,
      m_Bakery_with_life := ⟨a_Bakery_with_life, i_Bakery_with_life, k_Bakery_with_life⟩,
      F_Bakery_with_life := F_Bakery_with_life,
      b_Bakery_with_life := B_Bakery_with_life,
      m_Bakery_baking_more := ⟨a_Bakery_baking_more, i_Bakery_baking_more, k_Bakery_baking_more⟩,
      F_Bakery_baking_more := F_Bakery_baking_more,
      b_Bakery_baking_more := B_Bakery_baking_more,
      m_Bakery_stock := ⟨a_Bakery_stock, i_Bakery_stock, k_Bakery_stock⟩,
      F_Bakery_stock := F_Bakery_stock,
      b_Bakery_stock := B_Bakery_stock,
      m_Bakery_sold := ⟨a_Bakery_sold, i_Bakery_sold, k_Bakery_sold⟩,
      F_Bakery_sold := F_Bakery_sold,
      b_Bakery_sold := B_Bakery_sold,
      m_Bakery_missed := ⟨a_Bakery_missed, i_Bakery_missed, k_Bakery_missed⟩,
      F_Bakery_missed := F_Bakery_missed,
      b_Bakery_missed := B_Bakery_missed,
      m_Bakery_thrown := ⟨a_Bakery_thrown, i_Bakery_thrown, k_Bakery_thrown⟩,
      F_Bakery_thrown := F_Bakery_thrown,
      b_Bakery_thrown := B_Bakery_thrown,
      m_Bakery_totals := ⟨a_Bakery_totals, i_Bakery_totals, k_Bakery_totals⟩,
      F_Bakery_totals := F_Bakery_totals,
      b_Bakery_totals := B_Bakery_totals,
      m_Bakery_shelf := ⟨a_Bakery_shelf, i_Bakery_shelf, k_Bakery_shelf⟩,
      F_Bakery_shelf := F_Bakery_shelf,
      b_Bakery_shelf := B_Bakery_shelf,
      g_sell_in_order := PySem.W.mg_of X G a_sell_in_order,
      F_sell_in_order := F_sell_in_order,
      b_sell_in_order := B_sell_in_order,
      g_newest_first := PySem.W.mg_of X G a_newest_first,
      F_newest_first := F_newest_first,
      b_newest_first := B_newest_first,
      g_find_loss := PySem.W.mg_of X G a_find_loss,
      F_find_loss := F_find_loss,
      b_find_loss := B_find_loss,
      g_next_missed := PySem.W.mg_of X G a_next_missed,
      F_next_missed := F_next_missed,
      b_next_missed := B_next_missed,
      g_next_thrown := PySem.W.mg_of X G a_next_thrown,
      F_next_thrown := F_next_thrown,
      b_next_thrown := B_next_thrown,
      g_least_life := PySem.W.mg_of X G a_least_life,
      F_least_life := F_least_life,
      b_least_life := B_least_life,
      g_least_baking := PySem.W.mg_of X G a_least_baking,
      F_least_baking := F_least_baking,
      b_least_baking := B_least_baking,
      mk_LifeObserver := ⟨mk_LifeObserver, a_LifeObserver___init__, i_LifeObserver___init__, kc_LifeObserver⟩,
      F_LifeObserver___init__ := F_LifeObserver___init__,
      b_LifeObserver___init__ := B_LifeObserver___init__,
      pp_LifeObserver_records := ⟨a_LifeObserver_records, pg_LifeObserver_records, pt_LifeObserver_records, ⟨_, pr1_LifeObserver_records⟩⟩,
      F_LifeObserver_records := F_LifeObserver_records,
      b_LifeObserver_records := B_LifeObserver_records,
      m_LifeObserver_see_sold := ⟨a_LifeObserver_see_sold, i_LifeObserver_see_sold, k_LifeObserver_see_sold⟩,
      F_LifeObserver_see_sold := F_LifeObserver_see_sold,
      b_LifeObserver_see_sold := B_LifeObserver_see_sold,
      m_LifeObserver_see_thrown := ⟨a_LifeObserver_see_thrown, i_LifeObserver_see_thrown, k_LifeObserver_see_thrown⟩,
      F_LifeObserver_see_thrown := F_LifeObserver_see_thrown,
      b_LifeObserver_see_thrown := B_LifeObserver_see_thrown,
      m_LifeObserver_see_stock := ⟨a_LifeObserver_see_stock, i_LifeObserver_see_stock, k_LifeObserver_see_stock⟩,
      F_LifeObserver_see_stock := F_LifeObserver_see_stock,
      b_LifeObserver_see_stock := B_LifeObserver_see_stock,
      m_LifeObserver__accept := ⟨a_LifeObserver__accept, i_LifeObserver__accept, k_LifeObserver__accept⟩,
      F_LifeObserver__accept := F_LifeObserver__accept,
      b_LifeObserver__accept := B_LifeObserver__accept,
      g__law_mix := PySem.W.mg_of X G a__law_mix,
      F__law_mix := F__law_mix,
      b__law_mix := B__law_mix,
      g__law_next := PySem.W.mg_of X G a__law_next,
      F__law_next := F__law_next,
      b__law_next := B__law_next,
      g__law_error := PySem.W.mg_of X G a__law_error,
      F__law_error := F__law_error,
      b__law_error := B__law_error,
      g__law_amounts := PySem.W.mg_of X G a__law_amounts,
      F__law_amounts := F__law_amounts,
      b__law_amounts := B__law_amounts,
      g__law_parts := PySem.W.mg_of X G a__law_parts,
      F__law_parts := F__law_parts,
      b__law_parts := B__law_parts,
      g_law := PySem.W.mg_of X G a_law,
      FC_law := funC_mk (st := s_law) l_law q_law,
      F_law := F_law,
      b_law := B_law }
  have all : ∀ (Pr : Addr × Addr → Prop), Pr (ka_law, tb_law) → ∀ p ∈ [(ka_law, tb_law)], Pr p := fun Pr hp p hm => by
    rw [List.mem_singleton.mp hm]; exact hp
  exact ⟨PySem.W.fnOf "law" "law" (defArgs s_law) (defBody s_law) (defScope s_law) .none kV_law dc_law pm_law an_law (.ref ka_law) ct_law, [(ka_law, tb_law)], sp_lawT K tb_law, all _ ht_law, all _ nt_law, all _ (PySem.W.codeHd_of_K X ch_law), fun s v => .of_eq rfl, fun H a ns hl _ hT hS => ⟨a, ns, rfl, hS, hl, hT (ka_law, tb_law) (by simp), fun _ => rfl⟩, fun base _ _ TB => ok_law T rfl (TB (ka_law, tb_law) (by simp))⟩
end Sw

open PySem PySem.W PyProof.Rows
set_option maxRecDepth 100000 in
set_option maxHeartbeats 0 in
theorem PySem.Challenge.cw_staleloaves_k10_numbers_out_of_range_holds : PySem.Challenge.rw_staleloaves_k10_numbers_out_of_range.Holds := by
  w_on; o_law; k_head; (case hw => w_witness2)
  k_fill
  refine LamX.walk_ofTs (l := PySem.Challenge.rw_staleloaves_k10_numbers_out_of_range) (n := 63) (k := 13) (x := "_law_script") (CX := fun _ => L2.CX0) rfl (by decide) rfl ⟨rfl, by decide, by decide⟩ (fun w h Y => PySem.W.km_in_of Y) ?F (fun _ _ _ _ _ z => z)
  case F =>
    intro w mg fa h Y KX G hmg
    refine' Sw.all_mk KX G hmg ?g_Course ?pg_Course ?hd_Course ?po_Course ?sa_Course ?mk_Course ?kc_Course ?g_Bakery ?pg_Bakery ?hd_Bakery ?po_Bakery ?sa_Bakery ?mk_Bakery ?kc_Bakery ?g_LifeObserver ?pg_LifeObserver ?hd_LifeObserver ?po_LifeObserver ?sa_LifeObserver ?mk_LifeObserver ?kc_LifeObserver ?na_Course__bakes ?na_Course__demands ?na_Course__keepable ?na_Course__gain ?na_Course__first_end ?na_Course__full_end ?na_Course__first_misses ?na_Course__later_misses ?na_Bakery__bakes ?na_Bakery__demands ?na_Bakery__life ?na_Bakery_course ?na_Bakery__settled_day ?na_Bakery__long_run ?rd_Bakery ?gt_Bakery ?cv_Bakery_MAX_DAYS ?cn_Bakery_MAX_LIFE ?sp_cn_Bakery_MAX_LIFE ?cv_Bakery_MAX_LIFE ?na_LifeObserver__fitting ?na_LifeObserver__accepted ?g_MOST_LOAVES ?g_LAST_DAY ?g_MOST_NEWEST_DAYS ?g_MOST_MISSED ?g_MISSED ?g_THROWN ?b_ValueError ?b_divmod ?b_enumerate ?b_int ?b_isinstance ?b_len ?b_list ?b_max ?b_min ?b_range ?b_sum ?b_super ?b_tuple ?b_zip ?g_LoafError ?g_InvalidBakery ?g_InvalidNumber ?g_InvalidDays ?g_Contradiction ?xe_base ?xe_dict ?xe_type ?xe_any ?xe_top ?xe_cg ?xe_ct ?xp_InvalidNumber ?xq_InvalidNumber ?xb_InvalidNumber ?xy_InvalidNumber ?xv_InvalidNumber ?xk_InvalidNumber_InvalidBakery ?xk_InvalidNumber_InvalidNumber ?xk_InvalidNumber_InvalidDays ?xk_InvalidNumber_Contradiction ?xhd_InvalidNumber ?xic_InvalidNumber ?xga_InvalidNumber ?xgg_InvalidNumber ?xca_InvalidNumber ?xmo_InvalidNumber ?sL_InvalidNumber ?xp_Contradiction ?xq_Contradiction ?xb_Contradiction ?xy_Contradiction ?xv_Contradiction ?xk_Contradiction_InvalidBakery ?xk_Contradiction_InvalidNumber ?xk_Contradiction_InvalidDays ?xk_Contradiction_Contradiction ?xhd_Contradiction ?xic_Contradiction ?xga_Contradiction ?xgg_Contradiction ?xca_Contradiction ?xmo_Contradiction ?sL_Contradiction ?xL_InvalidBakery ?xr_InvalidBakery ?xsa_InvalidBakery ?xkC_InvalidBakery ?xeC_InvalidBakery ?xtC_InvalidBakery ?xhd_InvalidBakery ?xic_InvalidBakery ?xga_InvalidBakery ?xgg_InvalidBakery ?xca_InvalidBakery ?xmo_InvalidBakery ?xi_InvalidBakery ?xt_InvalidBakery ?l_InvalidBakery___init__ ?q_InvalidBakery___init__ ?lk_InvalidBakery___init__ ?vf_InvalidBakery___init__ ?fi_InvalidBakery___init__ ?ce_InvalidBakery___init__ ?su_InvalidBakery___init__ ?sb_InvalidBakery___init__ ?sv_InvalidBakery___init__ ?sL_InvalidBakery___init__ ?xv_InvalidBakery ?xk_InvalidBakery_InvalidBakery ?xk_InvalidBakery_InvalidNumber ?xk_InvalidBakery_InvalidDays ?xk_InvalidBakery_Contradiction ?na_InvalidBakery_part ?na_InvalidBakery_index ?xL_InvalidDays ?xr_InvalidDays ?xsa_InvalidDays ?xkC_InvalidDays ?xeC_InvalidDays ?xtC_InvalidDays ?xhd_InvalidDays ?xic_InvalidDays ?xga_InvalidDays ?xgg_InvalidDays ?xca_InvalidDays ?xmo_InvalidDays ?xi_InvalidDays ?xt_InvalidDays ?l_InvalidDays___init__ ?q_InvalidDays___init__ ?lk_InvalidDays___init__ ?vf_InvalidDays___init__ ?fi_InvalidDays___init__ ?ce_InvalidDays___init__ ?su_InvalidDays___init__ ?sb_InvalidDays___init__ ?sv_InvalidDays___init__ ?sL_InvalidDays___init__ ?xv_InvalidDays ?xk_InvalidDays_InvalidBakery ?xk_InvalidDays_InvalidNumber ?xk_InvalidDays_InvalidDays ?xk_InvalidDays_Contradiction ?na_InvalidDays_index ?a_check_number ?l_check_number ?q_check_number ?k_check_number ?a_count_keepable ?l_count_keepable ?q_count_keepable ?k_count_keepable ?a_sum_repeated ?l_sum_repeated ?q_sum_repeated ?k_sum_repeated ?a_Course___init__ ?i_Course___init__ ?l_Course___init__ ?q_Course___init__ ?k_Course___init__ ?a_Course_stock_at ?i_Course_stock_at ?l_Course_stock_at ?q_Course_stock_at ?k_Course_stock_at ?a_Course_sales_on ?i_Course_sales_on ?l_Course_sales_on ?q_Course_sales_on ?k_Course_sales_on ?a_Course_sales_before ?i_Course_sales_before ?l_Course_sales_before ?q_Course_sales_before ?k_Course_sales_before ?a_Course_loaves_at ?i_Course_loaves_at ?l_Course_loaves_at ?q_Course_loaves_at ?k_Course_loaves_at ?a_Course_find_settled ?i_Course_find_settled ?l_Course_find_settled ?q_Course_find_settled ?k_Course_find_settled ?a_Course_sum_settled_round ?i_Course_sum_settled_round ?l_Course_sum_settled_round ?q_Course_sum_settled_round ?k_Course_sum_settled_round ?a_Course__play_round ?i_Course__play_round ?l_Course__play_round ?q_Course__play_round ?k_Course__play_round ?a_Course__stocks_in ?i_Course__stocks_in ?l_Course__stocks_in ?q_Course__stocks_in ?k_Course__stocks_in ?a_Course__misses_in ?i_Course__misses_in ?l_Course__misses_in ?q_Course__misses_in ?k_Course__misses_in ?a_Course__count_growing ?i_Course__count_growing ?l_Course__count_growing ?q_Course__count_growing ?k_Course__count_growing ?a_check_amounts ?l_check_amounts ?q_check_amounts ?k_check_amounts ?a_check_life ?l_check_life ?q_check_life ?k_check_life ?a_check_bakery ?l_check_bakery ?q_check_bakery ?k_check_bakery ?a_Bakery___init__ ?i_Bakery___init__ ?l_Bakery___init__ ?q_Bakery___init__ ?k_Bakery___init__ ?a_Bakery_bakes ?pg_Bakery_bakes ?pt_Bakery_bakes ?pr1_Bakery_bakes ?l_Bakery_bakes ?q_Bakery_bakes ?k_Bakery_bakes ?a_Bakery_demands ?pg_Bakery_demands ?pt_Bakery_demands ?pr1_Bakery_demands ?l_Bakery_demands ?q_Bakery_demands ?k_Bakery_demands ?a_Bakery_life ?pg_Bakery_life ?pt_Bakery_life ?pr1_Bakery_life ?l_Bakery_life ?q_Bakery_life ?k_Bakery_life ?a_Bakery_settled_day ?pg_Bakery_settled_day ?pt_Bakery_settled_day ?pr1_Bakery_settled_day ?l_Bakery_settled_day ?q_Bakery_settled_day ?k_Bakery_settled_day ?a_Bakery_long_run ?pg_Bakery_long_run ?pt_Bakery_long_run ?pr1_Bakery_long_run ?l_Bakery_long_run ?q_Bakery_long_run ?k_Bakery_long_run ?a_Bakery_with_life ?i_Bakery_with_life ?l_Bakery_with_life ?q_Bakery_with_life ?k_Bakery_with_life ?a_Bakery_baking_more ?i_Bakery_baking_more ?l_Bakery_baking_more ?q_Bakery_baking_more ?k_Bakery_baking_more ?a_Bakery_stock ?i_Bakery_stock ?l_Bakery_stock ?q_Bakery_stock ?k_Bakery_stock ?a_Bakery_sold ?i_Bakery_sold ?l_Bakery_sold ?q_Bakery_sold ?k_Bakery_sold ?a_Bakery_missed ?i_Bakery_missed ?l_Bakery_missed ?q_Bakery_missed ?k_Bakery_missed ?a_Bakery_thrown ?i_Bakery_thrown ?l_Bakery_thrown ?q_Bakery_thrown ?k_Bakery_thrown ?a_Bakery_totals ?i_Bakery_totals ?l_Bakery_totals ?q_Bakery_totals ?k_Bakery_totals ?a_Bakery_shelf ?i_Bakery_shelf ?l_Bakery_shelf ?q_Bakery_shelf ?k_Bakery_shelf ?a_sell_in_order ?l_sell_in_order ?q_sell_in_order ?k_sell_in_order ?a_newest_first ?l_newest_first ?q_newest_first ?k_newest_first ?a_find_loss ?l_find_loss ?q_find_loss ?k_find_loss ?a_next_missed ?l_next_missed ?q_next_missed ?k_next_missed ?a_next_thrown ?l_next_thrown ?q_next_thrown ?k_next_thrown ?a_least_life ?l_least_life ?q_least_life ?k_least_life ?a_least_baking ?l_least_baking ?q_least_baking ?k_least_baking ?a_LifeObserver___init__ ?i_LifeObserver___init__ ?l_LifeObserver___init__ ?q_LifeObserver___init__ ?k_LifeObserver___init__ ?a_LifeObserver_records ?pg_LifeObserver_records ?pt_LifeObserver_records ?pr1_LifeObserver_records ?l_LifeObserver_records ?q_LifeObserver_records ?k_LifeObserver_records ?a_LifeObserver_see_sold ?i_LifeObserver_see_sold ?l_LifeObserver_see_sold ?q_LifeObserver_see_sold ?k_LifeObserver_see_sold ?a_LifeObserver_see_thrown ?i_LifeObserver_see_thrown ?l_LifeObserver_see_thrown ?q_LifeObserver_see_thrown ?k_LifeObserver_see_thrown ?a_LifeObserver_see_stock ?i_LifeObserver_see_stock ?l_LifeObserver_see_stock ?q_LifeObserver_see_stock ?k_LifeObserver_see_stock ?a_LifeObserver__accept ?i_LifeObserver__accept ?l_LifeObserver__accept ?q_LifeObserver__accept ?k_LifeObserver__accept ?a__law_mix ?l__law_mix ?q__law_mix ?k__law_mix ?a__law_next ?l__law_next ?q__law_next ?k__law_next ?a__law_error ?l__law_error ?q__law_error ?k__law_error ?a__law_amounts ?l__law_amounts ?q__law_amounts ?k__law_amounts ?a__law_parts ?l__law_parts ?q__law_parts ?k__law_parts ?a_law ?l_law ?q_law ?lc_law ?he_law ?ch_law ?nt_law ?ht_law ?k_law
    (case g_Course => k_is)
    (case pg_Course => k_is)
    (case hd_Course => k_is)
    (case po_Course => k_is)
    (case sa_Course => k_is)
    (case mk_Course => k_is)
    (case kc_Course => k_is)
    (case g_Bakery => k_is)
    (case pg_Bakery => k_is)
    (case hd_Bakery => k_is)
    (case po_Bakery => k_is)
    (case sa_Bakery => k_is)
    (case mk_Bakery => k_is)
    (case kc_Bakery => k_is)
    (case g_LifeObserver => k_is)
    (case pg_LifeObserver => k_is)
    (case hd_LifeObserver => k_is)
    (case po_LifeObserver => k_is)
    (case sa_LifeObserver => k_is)
    (case mk_LifeObserver => k_is)
    (case kc_LifeObserver => k_is)
    (case na_Course__bakes => k_is)
    (case na_Course__demands => k_is)
    (case na_Course__keepable => k_is)
    (case na_Course__gain => k_is)
    (case na_Course__first_end => k_is)
    (case na_Course__full_end => k_is)
    (case na_Course__first_misses => k_is)
    (case na_Course__later_misses => k_is)
    (case na_Bakery__bakes => k_is)
    (case na_Bakery__demands => k_is)
    (case na_Bakery__life => k_is)
    (case na_Bakery_course => k_is)
    (case na_Bakery__settled_day => k_is)
    (case na_Bakery__long_run => k_is)
    (case rd_Bakery => k_is)
    (case gt_Bakery => k_is)
    (case cv_Bakery_MAX_DAYS => k_is)
    (case cn_Bakery_MAX_LIFE => k_is)
    (case sp_cn_Bakery_MAX_LIFE => k_is)
    (case cv_Bakery_MAX_LIFE => k_is)
    (case na_LifeObserver__fitting => k_is)
    (case na_LifeObserver__accepted => k_is)
    (case g_MOST_LOAVES => k_is)
    (case g_LAST_DAY => k_is)
    (case g_MOST_NEWEST_DAYS => k_is)
    (case g_MOST_MISSED => k_is)
    (case g_MISSED => k_is)
    (case g_THROWN => k_is)
    (case b_ValueError => k_is)
    (case b_divmod => k_is)
    (case b_enumerate => k_is)
    (case b_int => k_is)
    (case b_isinstance => k_is)
    (case b_len => k_is)
    (case b_list => k_is)
    (case b_max => k_is)
    (case b_min => k_is)
    (case b_range => k_is)
    (case b_sum => k_is)
    (case b_super => k_is)
    (case b_tuple => k_is)
    (case b_zip => k_is)
    (case g_LoafError => k_is)
    (case g_InvalidBakery => k_is)
    (case g_InvalidNumber => k_is)
    (case g_InvalidDays => k_is)
    (case g_Contradiction => k_is)
    (case xe_base => k_is)
    (case xe_dict => k_is)
    (case xe_type => k_is)
    (case xe_any => k_is)
    (case xe_top => kernel_rfl)
    (case xe_cg => k_is)
    (case xe_ct => k_is)
    (case xp_InvalidNumber => first | k_exc | kernel_rfl)
    (case xq_InvalidNumber => k_is)
    (case xb_InvalidNumber => k_is)
    (case xy_InvalidNumber => k_is)
    (case xv_InvalidNumber => first | kit_is | kernel_rfl)
    (case xk_InvalidNumber_InvalidBakery => first | kit_is | kernel_rfl)
    (case xk_InvalidNumber_InvalidNumber => first | kit_is | kernel_rfl)
    (case xk_InvalidNumber_InvalidDays => first | kit_is | kernel_rfl)
    (case xk_InvalidNumber_Contradiction => first | kit_is | kernel_rfl)
    (case xhd_InvalidNumber => k_is)
    (case xic_InvalidNumber => k_is)
    (case xga_InvalidNumber => k_is)
    (case xgg_InvalidNumber => k_is)
    (case xca_InvalidNumber => k_is)
    (case xmo_InvalidNumber => k_is)
    (case sL_InvalidNumber => k_is)
    (case xp_Contradiction => first | k_exc | kernel_rfl)
    (case xq_Contradiction => k_is)
    (case xb_Contradiction => k_is)
    (case xy_Contradiction => k_is)
    (case xv_Contradiction => first | kit_is | kernel_rfl)
    (case xk_Contradiction_InvalidBakery => first | kit_is | kernel_rfl)
    (case xk_Contradiction_InvalidNumber => first | kit_is | kernel_rfl)
    (case xk_Contradiction_InvalidDays => first | kit_is | kernel_rfl)
    (case xk_Contradiction_Contradiction => first | kit_is | kernel_rfl)
    (case xhd_Contradiction => k_is)
    (case xic_Contradiction => k_is)
    (case xga_Contradiction => k_is)
    (case xgg_Contradiction => k_is)
    (case xca_Contradiction => k_is)
    (case xmo_Contradiction => k_is)
    (case sL_Contradiction => k_is)
    (case xL_InvalidBakery => k_is)
    (case xr_InvalidBakery => first | rfl | kernel_rfl | decide +kernel)
    (case xsa_InvalidBakery => k_is)
    (case xkC_InvalidBakery => k_is)
    (case xeC_InvalidBakery => k_is)
    (case xtC_InvalidBakery => k_is)
    (case xhd_InvalidBakery => k_is)
    (case xic_InvalidBakery => k_is)
    (case xga_InvalidBakery => k_is)
    (case xgg_InvalidBakery => k_is)
    (case xca_InvalidBakery => k_is)
    (case xmo_InvalidBakery => k_is)
    (case xi_InvalidBakery => k_is)
    (case xt_InvalidBakery => k_is)
    (case l_InvalidBakery___init__ => k_is)
    (case q_InvalidBakery___init__ => k_is)
    (case lk_InvalidBakery___init__ => k_is)
    (case vf_InvalidBakery___init__ => rfl)
    (case fi_InvalidBakery___init__ => kernel_rfl)
    (case ce_InvalidBakery___init__ => k_is)
    (case su_InvalidBakery___init__ => kernel_rfl)
    (case sb_InvalidBakery___init__ => k_is)
    (case sv_InvalidBakery___init__ => k_is)
    (case sL_InvalidBakery___init__ => k_is)
    (case xv_InvalidBakery => first | kit_is | kernel_rfl)
    (case xk_InvalidBakery_InvalidBakery => first | kit_is | kernel_rfl)
    (case xk_InvalidBakery_InvalidNumber => first | kit_is | kernel_rfl)
    (case xk_InvalidBakery_InvalidDays => first | kit_is | kernel_rfl)
    (case xk_InvalidBakery_Contradiction => first | kit_is | kernel_rfl)
    (case na_InvalidBakery_part => k_is)
    (case na_InvalidBakery_index => k_is)
    (case xL_InvalidDays => k_is)
    (case xr_InvalidDays => first | rfl | kernel_rfl | decide +kernel)
    (case xsa_InvalidDays => k_is)
    (case xkC_InvalidDays => k_is)
    (case xeC_InvalidDays => k_is)
    (case xtC_InvalidDays => k_is)
    (case xhd_InvalidDays => k_is)
    (case xic_InvalidDays => k_is)
    (case xga_InvalidDays => k_is)
    (case xgg_InvalidDays => k_is)
    (case xca_InvalidDays => k_is)
    (case xmo_InvalidDays => k_is)
    (case xi_InvalidDays => k_is)
    (case xt_InvalidDays => k_is)
    (case l_InvalidDays___init__ => k_is)
    (case q_InvalidDays___init__ => k_is)
    (case lk_InvalidDays___init__ => k_is)
    (case vf_InvalidDays___init__ => rfl)
    (case fi_InvalidDays___init__ => kernel_rfl)
    (case ce_InvalidDays___init__ => k_is)
    (case su_InvalidDays___init__ => kernel_rfl)
    (case sb_InvalidDays___init__ => k_is)
    (case sv_InvalidDays___init__ => k_is)
    (case sL_InvalidDays___init__ => k_is)
    (case xv_InvalidDays => first | kit_is | kernel_rfl)
    (case xk_InvalidDays_InvalidBakery => first | kit_is | kernel_rfl)
    (case xk_InvalidDays_InvalidNumber => first | kit_is | kernel_rfl)
    (case xk_InvalidDays_InvalidDays => first | kit_is | kernel_rfl)
    (case xk_InvalidDays_Contradiction => first | kit_is | kernel_rfl)
    (case na_InvalidDays_index => k_is)
    (case a_check_number => k_is)
    (case l_check_number => k_is)
    (case q_check_number => k_is)
    (case k_check_number => k_is)
    (case a_count_keepable => k_is)
    (case l_count_keepable => k_is)
    (case q_count_keepable => k_is)
    (case k_count_keepable => k_is)
    (case a_sum_repeated => k_is)
    (case l_sum_repeated => k_is)
    (case q_sum_repeated => k_is)
    (case k_sum_repeated => k_is)
    (case a_Course___init__ => k_is)
    (case i_Course___init__ => k_is)
    (case l_Course___init__ => k_is)
    (case q_Course___init__ => k_is)
    (case k_Course___init__ => k_is)
    (case a_Course_stock_at => k_is)
    (case i_Course_stock_at => k_is)
    (case l_Course_stock_at => k_is)
    (case q_Course_stock_at => k_is)
    (case k_Course_stock_at => k_is)
    (case a_Course_sales_on => k_is)
    (case i_Course_sales_on => k_is)
    (case l_Course_sales_on => k_is)
    (case q_Course_sales_on => k_is)
    (case k_Course_sales_on => k_is)
    (case a_Course_sales_before => k_is)
    (case i_Course_sales_before => k_is)
    (case l_Course_sales_before => k_is)
    (case q_Course_sales_before => k_is)
    (case k_Course_sales_before => k_is)
    (case a_Course_loaves_at => k_is)
    (case i_Course_loaves_at => k_is)
    (case l_Course_loaves_at => k_is)
    (case q_Course_loaves_at => k_is)
    (case k_Course_loaves_at => k_is)
    (case a_Course_find_settled => k_is)
    (case i_Course_find_settled => k_is)
    (case l_Course_find_settled => k_is)
    (case q_Course_find_settled => k_is)
    (case k_Course_find_settled => k_is)
    (case a_Course_sum_settled_round => k_is)
    (case i_Course_sum_settled_round => k_is)
    (case l_Course_sum_settled_round => k_is)
    (case q_Course_sum_settled_round => k_is)
    (case k_Course_sum_settled_round => k_is)
    (case a_Course__play_round => k_is)
    (case i_Course__play_round => k_is)
    (case l_Course__play_round => k_is)
    (case q_Course__play_round => k_is)
    (case k_Course__play_round => k_is)
    (case a_Course__stocks_in => k_is)
    (case i_Course__stocks_in => k_is)
    (case l_Course__stocks_in => k_is)
    (case q_Course__stocks_in => k_is)
    (case k_Course__stocks_in => k_is)
    (case a_Course__misses_in => k_is)
    (case i_Course__misses_in => k_is)
    (case l_Course__misses_in => k_is)
    (case q_Course__misses_in => k_is)
    (case k_Course__misses_in => k_is)
    (case a_Course__count_growing => k_is)
    (case i_Course__count_growing => k_is)
    (case l_Course__count_growing => k_is)
    (case q_Course__count_growing => k_is)
    (case k_Course__count_growing => k_is)
    (case a_check_amounts => k_is)
    (case l_check_amounts => k_is)
    (case q_check_amounts => k_is)
    (case k_check_amounts => k_is)
    (case a_check_life => k_is)
    (case l_check_life => k_is)
    (case q_check_life => k_is)
    (case k_check_life => k_is)
    (case a_check_bakery => k_is)
    (case l_check_bakery => k_is)
    (case q_check_bakery => k_is)
    (case k_check_bakery => k_is)
    (case a_Bakery___init__ => k_is)
    (case i_Bakery___init__ => k_is)
    (case l_Bakery___init__ => k_is)
    (case q_Bakery___init__ => k_is)
    (case k_Bakery___init__ => k_is)
    (case a_Bakery_bakes => k_is)
    (case pg_Bakery_bakes => k_is)
    (case pt_Bakery_bakes => k_is)
    (case pr1_Bakery_bakes => k_is)
    (case l_Bakery_bakes => k_is)
    (case q_Bakery_bakes => k_is)
    (case k_Bakery_bakes => k_is)
    (case a_Bakery_demands => k_is)
    (case pg_Bakery_demands => k_is)
    (case pt_Bakery_demands => k_is)
    (case pr1_Bakery_demands => k_is)
    (case l_Bakery_demands => k_is)
    (case q_Bakery_demands => k_is)
    (case k_Bakery_demands => k_is)
    (case a_Bakery_life => k_is)
    (case pg_Bakery_life => k_is)
    (case pt_Bakery_life => k_is)
    (case pr1_Bakery_life => k_is)
    (case l_Bakery_life => k_is)
    (case q_Bakery_life => k_is)
    (case k_Bakery_life => k_is)
    (case a_Bakery_settled_day => k_is)
    (case pg_Bakery_settled_day => k_is)
    (case pt_Bakery_settled_day => k_is)
    (case pr1_Bakery_settled_day => k_is)
    (case l_Bakery_settled_day => k_is)
    (case q_Bakery_settled_day => k_is)
    (case k_Bakery_settled_day => k_is)
    (case a_Bakery_long_run => k_is)
    (case pg_Bakery_long_run => k_is)
    (case pt_Bakery_long_run => k_is)
    (case pr1_Bakery_long_run => k_is)
    (case l_Bakery_long_run => k_is)
    (case q_Bakery_long_run => k_is)
    (case k_Bakery_long_run => k_is)
    (case a_Bakery_with_life => k_is)
    (case i_Bakery_with_life => k_is)
    (case l_Bakery_with_life => k_is)
    (case q_Bakery_with_life => k_is)
    (case k_Bakery_with_life => k_is)
    (case a_Bakery_baking_more => k_is)
    (case i_Bakery_baking_more => k_is)
    (case l_Bakery_baking_more => k_is)
    (case q_Bakery_baking_more => k_is)
    (case k_Bakery_baking_more => k_is)
    (case a_Bakery_stock => k_is)
    (case i_Bakery_stock => k_is)
    (case l_Bakery_stock => k_is)
    (case q_Bakery_stock => k_is)
    (case k_Bakery_stock => k_is)
    (case a_Bakery_sold => k_is)
    (case i_Bakery_sold => k_is)
    (case l_Bakery_sold => k_is)
    (case q_Bakery_sold => k_is)
    (case k_Bakery_sold => k_is)
    (case a_Bakery_missed => k_is)
    (case i_Bakery_missed => k_is)
    (case l_Bakery_missed => k_is)
    (case q_Bakery_missed => k_is)
    (case k_Bakery_missed => k_is)
    (case a_Bakery_thrown => k_is)
    (case i_Bakery_thrown => k_is)
    (case l_Bakery_thrown => k_is)
    (case q_Bakery_thrown => k_is)
    (case k_Bakery_thrown => k_is)
    (case a_Bakery_totals => k_is)
    (case i_Bakery_totals => k_is)
    (case l_Bakery_totals => k_is)
    (case q_Bakery_totals => k_is)
    (case k_Bakery_totals => k_is)
    (case a_Bakery_shelf => k_is)
    (case i_Bakery_shelf => k_is)
    (case l_Bakery_shelf => k_is)
    (case q_Bakery_shelf => k_is)
    (case k_Bakery_shelf => k_is)
    (case a_sell_in_order => k_is)
    (case l_sell_in_order => k_is)
    (case q_sell_in_order => k_is)
    (case k_sell_in_order => k_is)
    (case a_newest_first => k_is)
    (case l_newest_first => k_is)
    (case q_newest_first => k_is)
    (case k_newest_first => k_is)
    (case a_find_loss => k_is)
    (case l_find_loss => k_is)
    (case q_find_loss => k_is)
    (case k_find_loss => k_is)
    (case a_next_missed => k_is)
    (case l_next_missed => k_is)
    (case q_next_missed => k_is)
    (case k_next_missed => k_is)
    (case a_next_thrown => k_is)
    (case l_next_thrown => k_is)
    (case q_next_thrown => k_is)
    (case k_next_thrown => k_is)
    (case a_least_life => k_is)
    (case l_least_life => k_is)
    (case q_least_life => k_is)
    (case k_least_life => k_is)
    (case a_least_baking => k_is)
    (case l_least_baking => k_is)
    (case q_least_baking => k_is)
    (case k_least_baking => k_is)
    (case a_LifeObserver___init__ => k_is)
    (case i_LifeObserver___init__ => k_is)
    (case l_LifeObserver___init__ => k_is)
    (case q_LifeObserver___init__ => k_is)
    (case k_LifeObserver___init__ => k_is)
    (case a_LifeObserver_records => k_is)
    (case pg_LifeObserver_records => k_is)
    (case pt_LifeObserver_records => k_is)
    (case pr1_LifeObserver_records => k_is)
    (case l_LifeObserver_records => k_is)
    (case q_LifeObserver_records => k_is)
    (case k_LifeObserver_records => k_is)
    (case a_LifeObserver_see_sold => k_is)
    (case i_LifeObserver_see_sold => k_is)
    (case l_LifeObserver_see_sold => k_is)
    (case q_LifeObserver_see_sold => k_is)
    (case k_LifeObserver_see_sold => k_is)
    (case a_LifeObserver_see_thrown => k_is)
    (case i_LifeObserver_see_thrown => k_is)
    (case l_LifeObserver_see_thrown => k_is)
    (case q_LifeObserver_see_thrown => k_is)
    (case k_LifeObserver_see_thrown => k_is)
    (case a_LifeObserver_see_stock => k_is)
    (case i_LifeObserver_see_stock => k_is)
    (case l_LifeObserver_see_stock => k_is)
    (case q_LifeObserver_see_stock => k_is)
    (case k_LifeObserver_see_stock => k_is)
    (case a_LifeObserver__accept => k_is)
    (case i_LifeObserver__accept => k_is)
    (case l_LifeObserver__accept => k_is)
    (case q_LifeObserver__accept => k_is)
    (case k_LifeObserver__accept => k_is)
    (case a__law_mix => k_is)
    (case l__law_mix => k_is)
    (case q__law_mix => k_is)
    (case k__law_mix => k_is)
    (case a__law_next => k_is)
    (case l__law_next => k_is)
    (case q__law_next => k_is)
    (case k__law_next => k_is)
    (case a__law_error => k_is)
    (case l__law_error => k_is)
    (case q__law_error => k_is)
    (case k__law_error => k_is)
    (case a__law_amounts => k_is)
    (case l__law_amounts => k_is)
    (case q__law_amounts => k_is)
    (case k__law_amounts => k_is)
    (case a__law_parts => k_is)
    (case l__law_parts => k_is)
    (case q__law_parts => k_is)
    (case k__law_parts => k_is)
    (case a_law => k_is)
    (case l_law => k_is)
    (case q_law => k_is)
    (case lc_law => k_is)
    (case he_law => rfl)
    (case ch_law => kernel_rfl)
    (case nt_law => kernel_rfl)
    (case ht_law => exact PySem.W.km_tabs_of Y _ (by decide))
    (case k_law => k_is)
