import PyProof.Rows.All
import Wide.All
import OpenK.AllK
import Wide.FinOn
import HandS.ForMost
import KE.GoesMore
import KE.GoesEnum
import KE.KTupSum
import HandS.Evl
import HandS.TupAny
import HandS.Wide
import HandS.Style
import HandS.Property
import HandS.ClsMeth
import HandS.WideBits
import HandS.Steps
import HandS.Walk
import HandS.Strs
import HandS.SetFor
import HandS.IsInst
import HandS.Star
import HandS.Codes
import HandS.Conv
import PySem.Challenge.RW_staleloaves_k45_best_baking
set_option Elab.async false
set_option linter.all false
set_option maxRecDepth 100000
set_option maxHeartbeats 4000000
namespace Sw
open PySem PySem.Spec PyProof.Rows L2
/-! ### zip of a tuple, a tuple and a list; enumerate of a tuple -/
def Itz3 (K : PySem.W.Frag) (a b c : Addr) : It :=
  ⟨fun i H => ∃ (xs ys zs : List V) (x y z : V), SqT K H a xs ∧ SqT K H b ys ∧ SqL K H c zs ∧ xs[i]? = some x ∧ ys[i]? = some y ∧ zs[i]? = some z,
    fun i H v H' => ∃ T x y z, v = .ref T ∧ H T = none ∧ H' = upd H T (.tup [x, y, z]) ∧ (∀ xs, SqT K H a xs → xs[i]? = some x) ∧ (∀ ys, SqT K H b ys → ys[i]? = some y) ∧ ∀ zs, SqL K H c zs → zs[i]? = some z,
    fun i H => ∃ xs ys zs : List V, SqT K H a xs ∧ SqT K H b ys ∧ SqL K H c zs ∧ xs.length = i ∧ ys.length = i ∧ zs.length = i⟩
theorem turn_zip3 {P : Program} {w : World} {K : PySem.W.Frag} {elts : List Expr} {kk : Nat} {tpos : Pos} {a b c z TI TO i1 i2 i3 : Addr}
    (D : ZipSep3 z TI TO i1 i2 i3 [i1, a] [i2, b] [i3, c]) (h1a : a ≠ i1) (h2b : b ≠ i2) (h3c : c ≠ i3) :
    Turn P w K (.Tuple elts kk tpos) (Itz3 K a b c) [z, TI, TO, i1, i2, i3] z (fun i h => IsZip h z TI TO .none ∧ IsTupOf3 h TI (.ref i1) (.ref i2) (.ref i3) ∧ (∃ x y u, IsTupOf3 h TO x y u) ∧ h.IsTupleIter i1 a i ∧ h.IsTupleIter i2 b i ∧ h.IsListIter i3 c i) where
  mem := by simp
  obj := fun i h st d hd => by
    obtain ⟨hz, hTI, ⟨x, y, u, hTO⟩, ⟨o1, e1, _, d1⟩, ⟨o2, e2, _, d2⟩, ⟨o3, e3, _, d3⟩⟩ := st
    have e' : d = z ∨ d = TI ∨ d = TO ∨ d = i1 ∨ d = i2 ∨ d = i3 := by simpa using hd
    rcases e' with q | q | q | q | q | q
    · rw [q]; exact ⟨_, hz, fun v q => nomatch q⟩
    · rw [q]; exact ⟨_, hTI, fun v q => nomatch q⟩
    · rw [q]; exact ⟨_, hTO, fun v q => nomatch q⟩
    · rw [q]; exact ⟨o1, e1, fun v q => by rw [d1] at q; cases q⟩
    · rw [q]; exact ⟨o2, e2, fun v q => by rw [d2] at q; cases q⟩
    · rw [q]; exact ⟨o3, e3, fun v q => by rw [d3] at q; cases q⟩
  keep := fun i h h' st k => by
    obtain ⟨hz, hTI, ⟨x, y, u, hTO⟩, h1, h2, h3⟩ := st
    exact ⟨k z (by simp) _ hz, k TI (by simp) _ hTI, ⟨x, y, u, k TO (by simp) _ hTO⟩, h1.at fun o q => k i1 (by simp) o q, h2.at fun o q => k i2 (by simp) o q, h3.at fun o q => k i3 (by simp) o q⟩
  item := by
    intro X hP hw hK hc i pins s σ H E I hf st hg
    subst hP hw hK
    obtain ⟨hz, hTI, ⟨x0, y0, u0, hTO⟩, h1, h2, h3⟩ := st
    obtain ⟨xs, ys, zs, x, y, u, hqx, hqy, hqz, hx, hy, hu⟩ := hg
    obtain ⟨its, rv, p, _⟩ := I.tuple hqx
    obtain ⟨its2, rv2, p2, _⟩ := I.tuple hqy
    obtain ⟨its3, rv3, p3, _⟩ := I.list hqz
    obtain ⟨u1, hu1, ru1⟩ := rv.get hx
    obtain ⟨u2, hu2, ru2⟩ := rv2.get hy
    obtain ⟨u3, hu3, ru3⟩ := rv3.get hu
    have hh : X.A.in1.handled = none := I.ok.hd hc
    have D1 := Draws.tuple (prog := X.prog) (w := X.w) (A := X.A.in1) hh i1 a h1a its.toArray
    have D2 := Draws.tuple (prog := X.prog) (w := X.w) (A := X.A.in1) hh i2 b h2b its2.toArray
    have D3 := Draws.list (prog := X.prog) (w := X.w) (A := X.A.in1) hh i3 c h3c its3.toArray
    have hzl : z < s.heap.objs.size := Heap.lt_size hz
    have lt1 : i < its.toArray.size := by simpa using (List.getElem?_eq_some_iff.mp hu1).1
    have lt2 : i < its2.toArray.size := by simpa using (List.getElem?_eq_some_iff.mp hu2).1
    have lt3 : i < its3.toArray.size := by simpa using (List.getElem?_eq_some_iff.mp hu3).1
    refine wpAny_pyNext_zipD3_item D D1 D2 D3 hz hTI hTO ⟨h1, p⟩ ⟨h2, p2⟩ ⟨h3, p3.isList⟩ lt1 lt2 lt3 fun x1 x2 x3 h' tk q1 q2 q3 z' TO' s1' s2' s3' hT hsz hk => ?_
    have e1 : x1 = u1 := by have q : its[i]? = some x1 := by simpa using q1
                            rw [hu1] at q; exact (Option.some.inj q).symm
    have e2 : x2 = u2 := by have q : its2[i]? = some x2 := by simpa using q2
                            rw [hu2] at q; exact (Option.some.inj q).symm
    have e3 : x3 = u3 := by have q : its3[i]? = some x3 := by simpa using q3
                            rw [hu3] at q; exact (Option.some.inj q).symm
    subst e1 e2 e3
    refine ⟨_, rfl, wpAny_letOwnedTupleGo_zip (s := { s with heap := h', toks := tk }) z' fun h'' z'' sb => ?_⟩
    have hT2 : h''.get? s.heap.objs.size = some { cls := .type "tuple", data := .seq #[x1, x2, x3] } := (sb.2 _ (Nat.ne_of_gt hzl)).trans hT
    have new : ObjOk X.prog X.w (upd H s.heap.objs.size (.tup [x, y, u])) h'' s.heap.objs.size (.tup [x, y, u]) :=
      ⟨by show 3 ≤ sizeLine; decide, [x1, x2, x3], .cons ru1 (.cons ru2 (.cons ru3 .nil)), ⟨_, hT2, rfl, _, rfl⟩⟩
    have I1 : Inv X pins σ (upd H s.heap.objs.size (.tup [x, y, u])) { s with heap := h'', toks := tk } :=
      I.turnedNew (t' := tk) (ch := [z, TI, TO, i1, i2, i3]) (fun d o hb q => (sb.2 d (fun q' => hb (by simp [q']))).trans (hk d o (fun q' => hb (by simp [q'])) (fun q' => hb (by simp [q'])) (fun q' => hb (by simp [q'])) (fun q' => hb (by simp [q'])) (fun q' => hb (by simp [q'])) q)) hf (Nat.le_refl _) new
    refine ⟨.ref s.heap.objs.size, _, I1, rfl, ⟨_, x, y, u, rfl, I.hok.fresh (Nat.le_refl _), rfl, fun l hl => by rw [I.tuple_inj hl hqx]; exact hx, fun l hl => by rw [I.tuple_inj hl hqy]; exact hy, fun l hl => by rw [I.list_inj hl hqz]; exact hu⟩, ⟨z'', ?_, ⟨x1, x2, x3, ?_⟩, ?_, ?_, ?_⟩, fun d hdm => ?_⟩
    · exact (sb.2 _ D.TIz).trans (hk _ _ D.TIz D.TITO D.TIi1 D.TIi2 D.TIi3 hTI)
    · exact (sb.2 _ D.TOz).trans TO'
    · exact s1'.1.at fun o q => (sb.2 _ D.zi1.symm).trans q
    · exact s2'.1.at fun o q => (sb.2 _ D.zi2.symm).trans q
    · exact s3'.1.at fun o q => (sb.2 _ D.zi3.symm).trans q
    · have hlt : d < s.heap.objs.size := by
        have e' : d = z ∨ d = TI ∨ d = TO ∨ d = i1 ∨ d = i2 ∨ d = i3 := by simpa using hdm
        rcases e' with q | q | q | q | q | q
        · rw [q]; exact hzl
        · rw [q]; exact Heap.lt_size hTI
        · rw [q]; exact Heap.lt_size hTO
        · rw [q]; obtain ⟨_, e1, _⟩ := h1; exact Heap.lt_size e1
        · rw [q]; obtain ⟨_, e2, _⟩ := h2; exact Heap.lt_size e2
        · rw [q]; obtain ⟨_, e3, _⟩ := h3; exact Heap.lt_size e3
      rw [upd_ne (Nat.ne_of_lt hlt)]
      exact (hf d hdm).1
  done := by
    intro X hP hw hK hc i pins s σ H E I hf st hg
    subst hP hw hK
    obtain ⟨hz, hTI, ⟨x0, y0, u0, hTO⟩, h1, h2, h3⟩ := st
    obtain ⟨xs, ys, zs, hqx, hqy, hqz, l1, l2, l3⟩ := hg
    obtain ⟨its, rv, p, _⟩ := I.tuple hqx
    obtain ⟨its2, rv2, p2, _⟩ := I.tuple hqy
    obtain ⟨its3, rv3, p3, _⟩ := I.list hqz
    have m1 : i = its.toArray.size := by have := rv.length; simp; omega
    have m2 : i = its2.toArray.size := by have := rv2.length; simp; omega
    have m3 : i = its3.toArray.size := by have := rv3.length; simp; omega
    have hh : X.A.in1.handled = none := I.ok.hd hc
    have D1 := Draws.tuple (prog := X.prog) (w := X.w) (A := X.A.in1) hh i1 a h1a its.toArray
    have D2 := Draws.tuple (prog := X.prog) (w := X.w) (A := X.A.in1) hh i2 b h2b its2.toArray
    have D3 := Draws.list (prog := X.prog) (w := X.w) (A := X.A.in1) hh i3 c h3c its3.toArray
    exact wpAny_pyNext_zipD3_end D D1 D2 D3 hz hTI hTO ⟨h1, p⟩ ⟨h2, p2⟩ ⟨h3, p3.isList⟩ (Nat.le_of_eq m1) (Nat.le_of_eq m2) (Nat.le_of_eq m3) (.inl m1) fun h' tk hk => ⟨rfl, I.turnedL (t' := tk) (ch := [z, TI, TO, i1, i2, i3]) (fun d o hb q =>
      hk d o (fun q' => hb (by simp [q'])) (fun q' => hb (by simp [q'])) (fun q' => hb (by simp [q'])) (fun q' => hb (by simp [q'])) (fun q' => hb (by simp [q'])) q) hf⟩
  self := fun A i s Q E st h => wpAny_pyIter_zip st.1 h
def iZip3 (K : PySem.W.Frag) (ta : TA) : TI := fun σ H R => ta σ H fun vs H1 => ∃ a b c xs ys zs, vs = [.ref a, .ref b, .ref c] ∧ SqT K H1 a xs ∧ SqT K H1 b ys ∧ SqL K H1 c zs ∧ R (Itz3 K a b c) H1
theorem pi_zip3 {X : Cx} {e e2 e3 : Expr} {ta : TA} {p pos tpos : Pos} {elts : List Expr} {kk : Nat} (hg : Gl X "zip") (hm : X.mg "zip" = none) (ha : PA X [e, e2, e3] ta)
    (hs : starEach [e, e2, e3] X.env = (false, eval e X.env) :: starEach [e2, e3] X.env := by rfl) (hpl : (backTo pos (starEach [e2, e3] X.env)).any (·.1) = false := by rfl) :
    PI X (.Tuple elts kk tpos) (.Call (.Name "zip" p) [e, e2, e3] [] pos) (iZip3 X.K ta) := by
  refine ⟨fun pins s σ H R I h => ?_⟩
  refine Call_ (ld_blt I hg hm PyProof.Rows.boot_zip (PyProof.Rows.callWith_type1 (thn (ha.run pos pins s σ H _ I h) fun us s1 ⟨vs, H1, I1, r1, q1⟩ => ?_) hs hpl))
  obtain ⟨a, b, c, xs, ys, zs, ex, hqx, hqy, hqz, q⟩ := q1
  subst ex
  cases r1 with
  | cons r rr =>
    cases rr with
    | cons r' rr =>
      cases rr with
      | cons r'' rr =>
        cases rr
        cases r
        cases r'
        cases r''
        obtain ⟨its, rv, p1, _⟩ := I1.tuple hqx
        obtain ⟨its2, rv2, p2, _⟩ := I1.tuple hqy
        obtain ⟨its3, rv3, p3, _⟩ := I1.list hqz
        have la : a < s1.heap.objs.size := p1.lt
        have lb : b < s1.heap.objs.size := p2.lt
        have lc : c < s1.heap.objs.size := p3.lt
        refine zip_begins3 (begins_tuple a its.toArray) (begins_tuple b its2.toArray) (begins_list c its3.toArray) p1 p2 p3.isList fun h' hz hTI hTO h1 h2 h3 hsz hk => wpAny_pyIter_zip hz ?_
        have I2 : Inv X pins σ H1 { s1 with heap := h' } := I1.kept (t' := s1.toks) hk
        have sep : ZipSep3 (s1.heap.objs.size + 5) (s1.heap.objs.size + 3) (s1.heap.objs.size + 4) s1.heap.objs.size (s1.heap.objs.size + 1) (s1.heap.objs.size + 2) [s1.heap.objs.size, a] [s1.heap.objs.size + 1, b] [s1.heap.objs.size + 2, c] :=
          zip_sep3 (N := s1.heap.objs.size) (fp1 := [a]) (fp2 := [b]) (fp3 := [c]) (fun d hd => by rw [List.mem_singleton.mp hd]; exact la) (fun d hd => by rw [List.mem_singleton.mp hd]; exact lb) (fun d hd => by rw [List.mem_singleton.mp hd]; exact lc)
        refine ⟨s1.heap.objs.size + 5, [s1.heap.objs.size + 5, s1.heap.objs.size + 3, s1.heap.objs.size + 4, s1.heap.objs.size, s1.heap.objs.size + 1, s1.heap.objs.size + 2], _, _, H1, rfl, I2,
          turn_zip3 sep (Nat.ne_of_lt la) (Nat.ne_of_lt (Nat.lt_succ_of_lt lb)) (Nat.ne_of_lt (Nat.lt_succ_of_lt (Nat.lt_succ_of_lt lc))), ⟨hz, hTI, ⟨_, _, _, hTO⟩, ⟨_, h1, rfl, rfl⟩, ⟨_, h2, rfl, rfl⟩, ⟨_, h3, rfl, rfl⟩⟩, fun d hdm => ?_, q⟩
        have e' : d = s1.heap.objs.size + 5 ∨ d = s1.heap.objs.size + 3 ∨ d = s1.heap.objs.size + 4 ∨ d = s1.heap.objs.size ∨ d = s1.heap.objs.size + 1 ∨ d = s1.heap.objs.size + 2 := by simpa using hdm
        have hle : s1.heap.objs.size ≤ d := by
          rcases e' with z | z | z | z | z | z
          · rw [z]; exact Nat.le_add_right _ _
          · rw [z]; exact Nat.le_add_right _ _
          · rw [z]; exact Nat.le_add_right _ _
          · rw [z]; exact Nat.le_refl _
          · rw [z]; exact Nat.le_add_right _ _
          · rw [z]; exact Nat.le_add_right _ _
        exact I1.fpOk hle (I1.hok.fresh hle)
/-- the tuple at a, each item in a new pair with its number -/
def IteT (K : PySem.W.Frag) (a : Addr) : It :=
  ⟨fun i H => ∃ (xs : List V) (x : V), SqT K H a xs ∧ xs[i]? = some x, fun i H v H' => ∃ T x, v = .ref T ∧ H T = none ∧ H' = upd H T (.tup [.int (i : Nat), x]) ∧ ∀ xs, SqT K H a xs → xs[i]? = some x, fun i H => ∃ xs : List V, SqT K H a xs ∧ xs.length = i⟩
theorem turn_enumT {P : Program} {w : World} {K : PySem.W.Frag} {elts : List Expr} {kk : Nat} {tpos : Pos} (a e it : Addr) (hai : a ≠ it) (hae : e ≠ a) :
    Turn P w K (.Tuple elts kk tpos) (IteT K a) [e, it] e (fun i h => (∃ old, IsEnum h e it ((i : Nat) : Int) old) ∧ h.IsTupleIter it a i ∧ e ≠ it) where
  mem := by simp
  obj := fun i h st b hb => by
    obtain ⟨⟨old, he⟩, ⟨o, ho, hc, hd⟩, _⟩ := st
    have e' : b = e ∨ b = it := by simpa using hb
    rcases e' with z | z
    · rw [z]; exact ⟨_, he, fun v q => nomatch q⟩
    · rw [z]; exact ⟨o, ho, fun v q => by rw [hd] at q; cases q⟩
  keep := fun i h h' st k => let ⟨⟨old, he⟩, hi, hne⟩ := st; ⟨⟨old, k e (by simp) _ he⟩, hi.at fun o q => k it (by simp) o q, hne⟩
  item := by
    intro X hP hw hK hc i pins s σ H E I hf st hg
    subst hP hw hK
    obtain ⟨⟨old, he⟩, hit, hne⟩ := st
    obtain ⟨xs, x, hq, hx⟩ := hg
    obtain ⟨its, rv, p, hz⟩ := I.tuple hq
    obtain ⟨u, hu, ru⟩ := rv.get hx
    have hel : e < s.heap.objs.size := Heap.lt_size he
    have hil : it < s.heap.objs.size := by obtain ⟨_, q, _⟩ := hit; exact Heap.lt_size q
    have hh : X.A.in1.handled = none := I.ok.hd hc
    have D1 := Draws.tuple (prog := X.prog) (w := X.w) (A := X.A.in1) hh it a hai its.toArray
    have lt1 : i < its.toArray.size := by simpa using (List.getElem?_eq_some_iff.mp hu).1
    have hef : e ∉ [it, a] := by simp [hne, hae]
    refine wpAny_pyNext_enum_itemD D1 he ⟨hit, p⟩ lt1 hne hef fun x1 h' tk q1 ho st' hT hsz hk => ?_
    have e1 : x1 = u := by have q : its[i]? = some x1 := by simpa using q1
                           rw [hu] at q; exact (Option.some.inj q).symm
    subst e1
    refine ⟨_, rfl, wpAny_letOwnedTupleGo_enum (s := { s with heap := h', toks := tk + 1 }) ho fun h'' he' sb => ?_⟩
    have hT2 : h''.get? s.heap.objs.size = some { cls := .type "tuple", data := .seq #[.int i tk, x1] } := (sb.2 _ (Nat.ne_of_gt hel)).trans hT
    have new : ObjOk X.prog X.w (upd H s.heap.objs.size (.tup [.int (i : Nat), x])) h'' s.heap.objs.size (.tup [.int (i : Nat), x]) :=
      ⟨by show 2 ≤ sizeLine; decide, [.int i tk, x1], .cons ⟨_, rfl⟩ (.cons ru .nil), ⟨_, hT2, rfl, _, rfl⟩⟩
    have I1 : Inv X pins σ (upd H s.heap.objs.size (.tup [.int (i : Nat), x])) { s with heap := h'', toks := tk + 1 } :=
      I.turnedNew (ch := [e, it]) (fun b ob hb q => (sb.2 b (fun z => hb (by simp [z]))).trans (hk b ob (fun z => hb (by simp [z])) (fun z => hb (by simp [z])) q)) hf (Nat.le_refl _) new
    refine ⟨.ref s.heap.objs.size, _, I1, rfl, ⟨_, x, rfl, I.hok.fresh (Nat.le_refl _), rfl, fun ys hy => by rw [I.tuple_inj hy hq]; exact hx⟩, ⟨⟨x1, ?_⟩, st'.1.at fun o q => (sb.2 it (Ne.symm hne)).trans q, hne⟩, fun b hb => ?_⟩
    · have e1 : ((i + 1 : Nat) : Int) = (i : Int) + 1 := by omega
      rw [e1]; exact he'
    · have hb' : b < s.heap.objs.size := by
        have e' : b = e ∨ b = it := by simpa using hb
        rcases e' with z | z
        · rw [z]; exact hel
        · rw [z]; exact hil
      rw [upd_ne (Nat.ne_of_lt hb')]
      exact (hf b hb).1
  done := by
    intro X hP hw hK hc i pins s σ H E I hf st hg
    subst hP hw hK
    obtain ⟨⟨old, he⟩, hit, hne⟩ := st
    obtain ⟨xs, hq, hx⟩ := hg
    obtain ⟨its, rv, p, hz⟩ := I.tuple hq
    obtain ⟨f0, f1, f2, f3, f4, f5⟩ := hf it (by simp)
    have hh : X.A.in1.handled = none := I.ok.hd hc
    have D1 := Draws.tuple (prog := X.prog) (w := X.w) (A := X.A.in1) hh it a hai its.toArray
    have m1 : its.toArray.size = i := by have := rv.length; simp; omega
    refine wpAny_pyNext_enum_endD D1 he ⟨by rw [m1]; exact hit, p⟩ fun h' eb => ⟨rfl, I.turned (t' := s.toks) (fun b o hb q => eb b o hb q) f0 f1 f3 f4 f5⟩
  self := fun A i s Q E st h => let ⟨⟨_, he⟩, _⟩ := st; wpAny_pyIter_enum he h

theorem meets_enumerate_newB1 {v : Value} {o : Obj} {H : Heap → Prop} (B : Begins v o H) :
    Meets (Builtin.«enumerate.__new__» ⟨[.type "enumerate", v], []⟩) (fun _ R s => H s.heap ∧
      R (.ok (.ret (.ref (s.heap.push o).objs.size))) { s with heap := (s.heap.push o).push { cls := .type "enumerate", data := .fields #[.none, .bool false, .ref s.heap.objs.size, rawInt 0, .none, .none] } }) :=
  .of_wp fun prog w A R s h => by
    obtain ⟨hp, g, d, tk, os⟩ := s; obtain ⟨h1, h⟩ := h
    have hsub := sub_enumerate
    have q1 : ∀ {A' : Around} {E : Value → Shared → Prop} {Q : Value → Shared → Prop}, Q (.ref hp.objs.size) ⟨hp.push o, g, d, tk, os⟩ → wpAny (model prog w) A' (pyIter v) Q E ⟨hp, g, d, tk, os⟩ :=
      fun q => B.iter prog w _ _ ⟨hp, g, d, tk, os⟩ _ h1 q
    wp_walk using q1
    refine wpAny_stack_any fun st => wpAny_pure ?_
    split
    · rename_i c _ _ _ _ _
      cases (c == Value.type "enumerate")
      · wp_walk using q1
        exact ⟨_, rfl, h⟩
      · wp_walk using q1
        exact ⟨_, rfl, h⟩
    · wp_walk using q1
      exact ⟨_, rfl, h⟩
theorem enum_begins1 {prog : Program} {w : World} {A : Around} {E : Value → Shared → Prop} {s : Shared} {v : Value} {o : Obj} {H : Heap → Prop} {Q : Value → Shared → Prop} (B : Begins v o H) (h1 : H s.heap)
    (h : ∀ h', IsEnum h' (s.heap.objs.size + 1) s.heap.objs.size 0 .none → h'.get? s.heap.objs.size = some o → h'.objs.size = s.heap.objs.size + 2 →
      (∀ b o, s.heap.get? b = some o → h'.get? b = some o) → Q (.ref (s.heap.objs.size + 1)) { s with heap := h' }) :
    wpAny (model prog w) A (call (.type "enumerate") [v]) Q E s := by
  refine callType_new F.called_enumerate (by decide) (F.typeCall_enumerate_1 _) (F.newCall_enumerate_1 _) (fun obj => F.args_object_init_2 obj _) F.entry_enumerate_new
    (meets_enumerate_newB1 B) ⟨h1, ?_⟩
  have hz : (s.heap.push o).objs.size = s.heap.objs.size + 1 := Heap.size_push ..
  show _ ∧ _
  rw [hz]
  have he : IsEnum ((s.heap.push o).push { cls := .type "enumerate", data := .fields #[.none, .bool false, .ref s.heap.objs.size, rawInt 0, .none, .none] }) (s.heap.objs.size + 1) s.heap.objs.size 0 .none := by
    have := Heap.get?_push_size (s.heap.push o) (o := { cls := .type "enumerate", data := .fields #[.none, .bool false, .ref s.heap.objs.size, rawInt 0, .none, .none] }) rfl
    rw [hz] at this; exact this
  refine ⟨⟨_, he, rfl⟩, h _ he (Heap.get?_push_of_some _ (Heap.get?_push_size _ B.free)) (by rw [Heap.size_push, hz]) fun b o x => Heap.get?_push_of_some _ (Heap.get?_push_of_some _ x)⟩
def iEnumT (K : PySem.W.Frag) (ta : TA) : TI := fun σ H R => ta σ H fun vs H1 => ∃ a xs, vs = [.ref a] ∧ SqT K H1 a xs ∧ R (IteT K a) H1
theorem pi_enumT {X : Cx} {e : Expr} {ta : TA} {p pos tpos : Pos} {elts : List Expr} {kk : Nat} (hg : Gl X "enumerate") (hm : X.mg "enumerate" = none) (ha : PA X [e] ta) (hs : starEach [e] X.env = [(false, eval e X.env)] := by rfl) :
    PI X (.Tuple elts kk tpos) (.Call (.Name "enumerate" p) [e] [] pos) (iEnumT X.K ta) := by
  refine ⟨fun pins s σ H R I h => ?_⟩
  refine Call_ (ld_blt I hg hm boot_enumerate (PyProof.Rows.callWith_type1 (thn (ha.run pos pins s σ H _ I h) fun us s1 ⟨vs, H1, I1, r1, q1⟩ => ?_) hs rfl))
  obtain ⟨a, xs, ex, hq, q⟩ := q1
  subst ex
  cases r1 with
  | cons r rr =>
    cases rr
    cases r
    obtain ⟨its, rv, p', hz⟩ := I1.tuple hq
    have la : a < s1.heap.objs.size := p'.lt
    refine enum_begins1 (begins_tuple a its.toArray) p' fun h' he hit hsz hk => wpAny_pyIter_enum he ?_
    have I2 : Inv X pins σ H1 { s1 with heap := h' } := I1.kept (t' := s1.toks) hk
    refine ⟨s1.heap.objs.size + 1, [s1.heap.objs.size + 1, s1.heap.objs.size], _, _, H1, rfl, I2, turn_enumT a (s1.heap.objs.size + 1) s1.heap.objs.size (Nat.ne_of_lt la) (Nat.ne_of_gt (Nat.lt_succ_of_lt la)), ⟨⟨.none, he⟩, ⟨_, hit, rfl, rfl⟩, Nat.succ_ne_self _⟩, fun b hb => ?_, q⟩
    have e' : b = s1.heap.objs.size + 1 ∨ b = s1.heap.objs.size := by simpa using hb
    have hle : s1.heap.objs.size ≤ b := by
      rcases e' with z | z
      · rw [z]; exact Nat.le_add_right _ _
      · rw [z]; exact Nat.le_refl _
    exact I1.fpOk hle (I1.hok.fresh hle)
end Sw
namespace Sw
open PySem PySem.Spec PyProof.Rows L2 Evl
/-! ### more rules: sum of a tuple -/
section
variable {X : Cx}
def rSumT (K : PySem.W.Frag) : List V → Hp → VK → Prop := fun vs H Q => ∃ (a : Addr) (ns : List Int), vs = [V.ref a] ∧ SqT K H a (ns.map V.int) ∧ Q (.int ns.sum) H
theorem cr_sumT (hc : X.calm = true) : CallR X (.builtin "sum") (rSumT X.K) := by
  intro pins s σ H vs us Q I r h
  obtain ⟨a, ns, rfl, hs, q⟩ := h
  obtain ⟨its, rv, hl, _⟩ := I.tuple hs
  rw [Vals.ref1 r]
  obtain ⟨xs, e⟩ := rv.ints.allInts.items
  have hn : numsOf (intItems xs).toList = ns := by rw [← e]; exact rv.ints.numsOf
  rw [nums_intItems] at hn
  have hl' : s.heap.IsTuple a (intItems xs) := by rw [← e]; exact hl
  refine PySem.W.ktm_sumG (I.ok.hd hc) hl' fun h' tk t' hk => ⟨.int ns.sum, H, I.kept hk, ⟨t', ?_⟩, q⟩
  rw [preSum_eq, List.take_of_length_le (by simp), hn]
theorem ps_no {st : Stmt} : PS X st (fun _ _ _ => False) := ⟨fun _ _ _ _ _ _ h => h.elim⟩
end
/-! ### what they evaluate to -/
section
variable {K : PySem.W.Frag} {σ : L2.St} {H H' : Hp} {ta tb te tx : TE} {x y z v : V}
theorem ev_sumN {ns : List Int} (h : EvL ta σ H (ns.map V.int)) : Ev (tCB (rSum K) (tCons ta tNil)) σ H (.int ns.sum) := fun H1 e Q q =>
  h H1 e _ fun p H2 _ e2 h2 => ⟨p, ns, rfl, sq_of h2, q H2 e2⟩
theorem ev_sumL {a : Addr} {ns : List Int} (h : Ev ta σ H (.ref a)) (hx : SqL K H a (ns.map V.int)) : Ev (tCB (rSum K) (tCons ta tNil)) σ H (.int ns.sum) := fun H1 e Q q =>
  h H1 e _ fun H2 e2 => ⟨a, ns, rfl, ex_l (e.trans e2) hx, q H2 e2⟩
theorem ev_sumT {a : Addr} {ns : List Int} (h : Ev ta σ H (.ref a)) (hx : SqT K H a (ns.map V.int)) : Ev (tCB (rSumT K) (tCons ta tNil)) σ H (.int ns.sum) := fun H1 e Q q =>
  h H1 e _ fun H2 e2 => ⟨a, ns, rfl, ex_t (e.trans e2) hx, q H2 e2⟩
theorem ev_lenT {a : Addr} {xs : List V} (h : Ev ta σ H (.ref a)) (hx : SqT K H a xs) : Ev (tCB (rLenS K) (tCons ta tNil)) σ H (.int (xs.length : Int)) := fun H1 e Q q =>
  h H1 e _ fun H2 e2 => ⟨a, xs, rfl, .inr (ex_t (e.trans e2) hx), q H2 e2⟩
theorem given_all (n : Nat) (v : Nat → V) : given n (fun _ => true) v = (List.range n).map v := by
  unfold given
  rw [List.filter_eq_self.mpr (fun _ _ => rfl)]
theorem et_yes : EvT tYes σ H true := fun H1 _ _ q => q H1 (Ex.refl H1)
/-- the comprehension over range(n), no test -/
theorem el_lcR {ta : TA} {j : Nat} {vs : List Nat} {n : Int} (v : Nat → V) (h : EvA ta σ H [.int n]) (hn : 0 ≤ n ∧ n ≤ 40000) (hw : ∀ x, wipe ((wipe σ vs).set j (some x)) vs = wipe σ vs)
    (he : ∀ (i : Nat) H1, Ex H H1 → (i : Int) < n → Ev te ((wipe σ vs).set j (some (.int (i : Int)))) H1 (v i)) :
    EvL (tLc (iRng1 ta) (gName j) tYes te vs) σ H ((List.range n.toNat).map v) := by
  rw [← given_all]
  exact el_lcR1 (fun _ => true) v h hn hw (fun _ _ _ _ => et_yes) (fun i H1 e hi _ => he i H1 e hi)
theorem atI_at {α : Type} {xs : List α} {i : Int} {d : α} (h0 : 0 ≤ i) (h1 : i < xs.length) : atI xs i = some (xs.getD i.toNat d) := by
  obtain ⟨j, rfl⟩ : ∃ j : Nat, i = (j : Int) := ⟨i.toNat, by omega⟩
  have hj : j < xs.length := by omega
  rw [atI_nat (v := xs[j]) (by simp [hj]), Int.toNat_natCast]
  simp [List.getD, hj]
end
end Sw
namespace Sw
open PySem PySem.Spec PyProof.Rows L2 Evl
/-! ### instances, methods, calls -/
section
variable {K : PySem.W.Frag} {σ : L2.St} {H H' : Hp} {ta tb te tx : TE} {x y z v : V} {a C dx : Addr} {fs : List (Str × V)} {f m : Str}
/-- the instance at a has the field -/
def Fl (H : Hp) (a C : Addr) (f : Str) (v : V) : Prop := ∃ dx fs, H a = some (.ins C dx fs) ∧ fs.lookup f = some v
/-- the instance at a has no such field -/
def NoF (H : Hp) (a C : Addr) (f : Str) : Prop := ∃ dx fs, H a = some (.ins C dx fs) ∧ fs.lookup f = none
theorem Fl.mono (e : Ex H H') (h : Fl H a C f v) : Fl H' a C f v := let ⟨dx, fs, h1, h2⟩ := h; ⟨dx, fs, e _ _ h1, h2⟩
theorem NoF.mono (e : Ex H H') (h : NoF H a C f) : NoF H' a C f := let ⟨dx, fs, h1, h2⟩ := h; ⟨dx, fs, e _ _ h1, h2⟩
theorem ev_fld (h : Ev ta σ H (.ref a)) (hf : Fl H a C f v) (c : Cls K C) (n : NoAttr K C f) : Ev (tFld K ta f) σ H v := fun H1 e Q q =>
  h H1 e _ fun H2 e2 => let ⟨dx, fs, h1, h2⟩ := hf; ⟨a, C, dx, fs, v, rfl, e2 _ _ (e _ _ h1), c, n, h2, q H2 e2⟩
/-- what a method's promise gives -/
theorem ev_meth {sp : Sp} {dvs vs : List V} {E : XK} {t : TA} (h : Ev ta σ H (.ref a)) (nf : NoF H a C m) (hv : EvA t σ H vs) (hs : SpV sp (.ref a :: (vs ++ dvs)) H z) : Ev (tMeth C m sp dvs E ta t) σ H z := fun H1 e Q q =>
  h H1 e _ fun H2 e2 => let ⟨dx, fs, h1, h2⟩ := nf; ⟨a, dx, fs, rfl, e2 _ _ (e _ _ h1), h2, hv H2 (e.trans e2) _ fun H3 e3 => hs H3 ((e.trans e2).trans e3) Q (fun H4 e4 => q H4 ((e2.trans e3).trans e4)) E⟩
theorem el_meth {sp : Sp} {dvs vs xs : List V} {E : XK} {t : TA} (h : Ev ta σ H (.ref a)) (nf : NoF H a C m) (hv : EvA t σ H vs) (hs : SpL sp (.ref a :: (vs ++ dvs)) H xs) : EvL (tMeth C m sp dvs E ta t) σ H xs := fun H1 e Q q =>
  h H1 e _ fun H2 e2 => let ⟨dx, fs, h1, h2⟩ := nf; ⟨a, dx, fs, rfl, e2 _ _ (e _ _ h1), h2, hv H2 (e.trans e2) _ fun H3 e3 => hs H3 ((e.trans e2).trans e3) Q (fun p H4 hp e4 h4 => q p H4 (fresh_back (e2.trans e3) hp) ((e2.trans e3).trans e4) h4) E⟩
/-- a new tuple -/
def SpU (sp : Sp) (vs : List V) (H : Hp) (xs : List V) : Prop := ∀ H1, Ex H H1 → ∀ Q : VK, (∀ p H2, H1 p = none → Ex H1 H2 → H2 p = some (.tup xs) → Q (.ref p) H2) → ∀ E : XK, sp vs H1 Q E
theorem eu_meth {sp : Sp} {dvs vs xs : List V} {E : XK} {t : TA} (h : Ev ta σ H (.ref a)) (nf : NoF H a C m) (hv : EvA t σ H vs) (hs : SpU sp (.ref a :: (vs ++ dvs)) H xs) : EvU (tMeth C m sp dvs E ta t) σ H xs := fun H1 e Q q =>
  h H1 e _ fun H2 e2 => let ⟨dx, fs, h1, h2⟩ := nf; ⟨a, dx, fs, rfl, e2 _ _ (e _ _ h1), h2, hv H2 (e.trans e2) _ fun H3 e3 => hs H3 ((e.trans e2).trans e3) Q (fun p H4 hp e4 h4 => q p H4 (fresh_back (e2.trans e3) hp) ((e2.trans e3).trans e4) h4) E⟩
theorem eu_call {sp : Sp} {dvs vs xs : List V} {E : XK} {ta : TA} (h : EvA ta σ H vs) (hs : SpU sp (vs ++ dvs) H xs) : EvU (tCall sp dvs E ta) σ H xs := fun H1 e Q q =>
  h H1 e _ fun H2 e2 => hs H2 (e.trans e2) Q (fun p H3 hp e3 h3 => q p H3 (fresh_back e2 hp) (e2.trans e3) h3) E
/-- an item of what a call hands back -/
theorem ev_ixNL {xs : List V} {i : Int} (h : EvL ta σ H xs) (hb : Ev tb σ H (.int i)) (ha : atI xs i = some v) : Ev (tOp (rIxL K) ta tb) σ H v := ev_opL1 h (fun H1 e => hb.mono e) fun p H1 hp _ => rv_ixL (K := K) (sq_of hp) ha
theorem ev_ixNU {xs : List V} {i : Int} (h : EvU ta σ H xs) (hb : Ev tb σ H (.int i)) (ha : atI xs i = some v) : Ev (tOp (rIxT K) ta tb) σ H v := fun H1 e Q q =>
  h H1 e _ fun p H2 _ e2 hp => hb H2 (e.trans e2) _ fun H3 e3 => rv_ixT (K := K) (st_of (e3 p _ hp)) ha H3 (Ex.refl H3) Q fun H4 e4 => q H4 ((e2.trans e3).trans e4)
theorem ev_ixL {p : Addr} {xs : List V} {i : Int} (h : Ev ta σ H (.ref p)) (hx : SqL K H p xs) (hb : Ev tb σ H (.int i)) (ha : atI xs i = some v) : Ev (tOp (rIxL K) ta tb) σ H v := ev_op h hb (rv_ixL hx ha)
theorem ev_ixT {p : Addr} {xs : List V} {i : Int} (h : Ev ta σ H (.ref p)) (hx : SqT K H p xs) (hb : Ev tb σ H (.int i)) (ha : atI xs i = some v) : Ev (tOp (rIxT K) ta tb) σ H v := ev_op h hb (rv_ixT hx ha)
/-- the smaller, the greater of two -/
def rMn : List V → Hp → VK → Prop := fun xs H Q => ∃ i j, xs = [.int i, .int j] ∧ Q (.int (if j < i then j else i)) H
theorem ev_min2 {i j : Int} (ha : Ev ta σ H (.int i)) (hb : Ev tb σ H (.int j)) : Ev (tCB rMn (tCons ta (tCons tb tNil))) σ H (.int (min i j)) := fun H1 e Q q =>
  ha H1 e _ fun H2 e2 => hb H2 (e.trans e2) _ fun H3 e3 => ⟨i, j, rfl, by
    have z : (if j < i then j else i) = min i j := by omega
    rw [z]; exact q H3 (e2.trans e3)⟩
theorem ev_maxi {i j : Int} (ha : Ev ta σ H (.int i)) (hb : Ev tb σ H (.int j)) : Ev (tCB rMax2 (tCons ta (tCons tb tNil))) σ H (.int (max i j)) := by
  have z : (if j > i then j else i) = max i j := by omega
  rw [← z]; exact ev_max2 ha hb
/-- divmod: a new pair -/
def rDm : List V → Hp → VK → Prop := fun xs H Q => ∃ i j, xs = [.int i, .int j] ∧ CDiv i j ∧ ∀ p, H p = none → Q (.ref p) (upd H p (.tup [.int (i / j), .int (i % j)]))
theorem eu_dm {i j : Int} (ha : Ev ta σ H (.int i)) (hb : Ev tb σ H (.int j)) (hc : CDiv i j) : EvU (tCB rDm (tCons ta (tCons tb tNil))) σ H [.int (i / j), .int (i % j)] := fun H1 e Q q =>
  ha H1 e _ fun H2 e2 => hb H2 (e.trans e2) _ fun H3 e3 => ⟨i, j, rfl, hc, fun p hp => q p _ (fresh_back (e2.trans e3) hp) ((e2.trans e3).trans (Ex.new hp)) upd_same⟩
theorem eu_tup {t : TA} {xs : List V} (h : EvA t σ H xs) (hz : xs.length ≤ 100000) : EvU (tTup t) σ H xs := fun H1 e Q q =>
  h H1 e _ fun H2 e2 => ⟨sz_of hz, fun p hp => q p _ (fresh_back e2 hp) (e2.trans (Ex.new hp)) upd_same⟩
theorem el_lst {t : TA} {xs : List V} (h : EvA t σ H xs) (hz : xs.length ≤ 100000) : EvL (tLst t) σ H xs := fun H1 e Q q =>
  h H1 e _ fun H2 e2 => ⟨sz_of hz, fun p hp => q p _ (fresh_back e2 hp) (e2.trans (Ex.new hp)) upd_same⟩
theorem Ev.int_eq {i j : Int} (h : Ev te σ H (.int i)) (e : i = j) : Ev te σ H (.int j) := e ▸ h
/-- a, b = a new pair -/
theorem s_pair {i j : Nat} {D : Ends} {x y : V} (h : EvU te σ H [x, y]) (k : ∀ H1, Ex H H1 → D.nx ((σ.set i (some x)).set j (some y)) H1) : tAsg te (gTup K 2 (gCons (gName i) (gCons (gName j) gNil))) D σ H :=
  h H (Ex.refl H) _ fun p H1 _ e hp => ⟨p, [x, y], rfl, st_of hp, rfl, x, [y], rfl, y, [], rfl, rfl, k H1 e⟩
theorem q_pair {i j : Nat} {D : Ends} {x y : V} {tz : TS} (h : EvU te σ H [x, y]) (k : ∀ H1, Ex H H1 → tz D ((σ.set i (some x)).set j (some y)) H1) : tSeq (tAsg te (gTup K 2 (gCons (gName i) (gCons (gName j) gNil)))) tz D σ H :=
  s_pair (D := { D with nx := tz D }) h k
end
/-! ### the rules with the written part named -/
section
variable {X : Cx}
theorem pe_fldK (K : PySem.W.Frag) {e : Expr} {f : Str} {pos : Pos} {ta : TE} (hK : X.K = K) (he : PE X e ta) (hb : attributeBase e f X.env (eval e X.env) = eval e X.env) : PE X (.Attribute e f pos) (tFld K ta f) := by
  subst hK; exact pe_fld he hb
theorem pi_listK (K : PySem.W.Frag) {tg l : Expr} {tl : TE} (hK : X.K = K) (hl : PE X l tl) : PI X tg l (iList K tl) := by
  subst hK; exact pi_list hl
theorem pi_tupK (K : PySem.W.Frag) {tg l : Expr} {tl : TE} (hK : X.K = K) (hl : PE X l tl) : PI X tg l (iTup K tl) := by
  subst hK; exact pi_tup hl
theorem pi_enumTK (K : PySem.W.Frag) {e : Expr} {ta : TA} {p pos tpos : Pos} {elts : List Expr} {kk : Nat} (hK : X.K = K) (hg : Gl X "enumerate") (hm : X.mg "enumerate" = none) (ha : PA X [e] ta) (hs : starEach [e] X.env = [(false, eval e X.env)] := by rfl) :
    PI X (.Tuple elts kk tpos) (.Call (.Name "enumerate" p) [e] [] pos) (iEnumT K ta) := by
  subst hK; exact pi_enumT hg hm ha hs
theorem pg_tupK (K : PySem.W.Frag) {es : List Expr} {k : Nat} {t : TGs} {n : Nat} {pos : Pos} (hK : X.K = K) (hc : X.calm = true) (h : PGs X es t)
    (hn : (assignEach es X.env).length = n := by rfl) (hst : (assignEach es X.env).findIdx? (·.1) = none := by rfl) : PG X (.Tuple es k pos) (gTup K n t) := by
  subst hK; exact pg_tup hc h hn hst
end
/-! ### the promises' shapes -/
def RetU (xs : List V) (H : Hp) (Q : VK) : Prop := ∀ p H2, H p = none → Ex H H2 → H2 p = some (.tup xs) → Q (.ref p) H2
end Sw
namespace Sw
open PySem PySem.Spec PyProof.Rows L2 Evl
section
variable {K : PySem.W.Frag} {σ : L2.St} {H H' : Hp} {ta tb te tx : TE} {x y z v : V} {a C dx : Addr} {fs : List (Str × V)} {f m : Str} {D : Ends} {tz : TS}
/-- o.f = e -/
theorem q_fld (h : Ev te σ H v) (ho : ∀ H1, Ex H H1 → Ev ta σ H1 (.ref a)) (hx : H a = some (.ins C dx fs)) (c : Cls K C) (n : NoAttr K C f) (hl : fs.length < 1000) (k : ∀ H1, Ex H H1 → tz D σ (upd H1 a (.ins C dx (putF f v fs)))) : tSeq (sFld K ta te f) tz D σ H :=
  h H (Ex.refl H) _ fun H1 e1 => ho H1 e1 H1 (Ex.refl H1) _ fun H2 e2 => ⟨a, C, dx, fs, rfl, e2 _ _ (e1 _ _ hx), c, n, hl, k H2 (e1.trans e2)⟩
theorem s_fld (h : Ev te σ H v) (ho : ∀ H1, Ex H H1 → Ev ta σ H1 (.ref a)) (hx : H a = some (.ins C dx fs)) (c : Cls K C) (n : NoAttr K C f) (hl : fs.length < 1000) (k : ∀ H1, Ex H H1 → D.nx σ (upd H1 a (.ins C dx (putF f v fs)))) : sFld K ta te f D σ H :=
  h H (Ex.refl H) _ fun H1 e1 => ho H1 e1 H1 (Ex.refl H1) _ fun H2 e2 => ⟨a, C, dx, fs, rfl, e2 _ _ (e1 _ _ hx), c, n, hl, k H2 (e1.trans e2)⟩
theorem q_fldL {xs : List V} (h : EvL te σ H xs) (ho : ∀ H1, Ex H H1 → Ev ta σ H1 (.ref a)) (hx : H a = some (.ins C dx fs)) (c : Cls K C) (n : NoAttr K C f) (hl : fs.length < 1000) (k : ∀ p H1, H p = none → Ex H H1 → H1 p = some (.lst xs) → tz D σ (upd H1 a (.ins C dx (putF f (.ref p) fs)))) : tSeq (sFld K ta te f) tz D σ H :=
  h H (Ex.refl H) _ fun p H1 hp e1 h1 => ho H1 e1 H1 (Ex.refl H1) _ fun H2 e2 => ⟨a, C, dx, fs, rfl, e2 _ _ (e1 _ _ hx), c, n, hl, k p H2 hp (e1.trans e2) (e2 _ _ h1)⟩
theorem s_fldL {xs : List V} (h : EvL te σ H xs) (ho : ∀ H1, Ex H H1 → Ev ta σ H1 (.ref a)) (hx : H a = some (.ins C dx fs)) (c : Cls K C) (n : NoAttr K C f) (hl : fs.length < 1000) (k : ∀ p H1, H p = none → Ex H H1 → H1 p = some (.lst xs) → D.nx σ (upd H1 a (.ins C dx (putF f (.ref p) fs)))) : sFld K ta te f D σ H :=
  h H (Ex.refl H) _ fun p H1 hp e1 h1 => ho H1 e1 H1 (Ex.refl H1) _ fun H2 e2 => ⟨a, C, dx, fs, rfl, e2 _ _ (e1 _ _ hx), c, n, hl, k p H2 hp (e1.trans e2) (e2 _ _ h1)⟩
theorem s_fldU {xs : List V} (h : EvU te σ H xs) (ho : ∀ H1, Ex H H1 → Ev ta σ H1 (.ref a)) (hx : H a = some (.ins C dx fs)) (c : Cls K C) (n : NoAttr K C f) (hl : fs.length < 1000) (k : ∀ p H1, H p = none → Ex H H1 → H1 p = some (.tup xs) → D.nx σ (upd H1 a (.ins C dx (putF f (.ref p) fs)))) : sFld K ta te f D σ H :=
  h H (Ex.refl H) _ fun p H1 hp e1 h1 => ho H1 e1 H1 (Ex.refl H1) _ fun H2 e2 => ⟨a, C, dx, fs, rfl, e2 _ _ (e1 _ _ hx), c, n, hl, k p H2 hp (e1.trans e2) (e2 _ _ h1)⟩
/-- the heap, the one object at x forgotten -/
def wo (H : Hp) (x : Addr) : Hp := fun b => if b = x then none else H b
theorem wo_self {H : Hp} {x : Addr} : wo H x x = none := by unfold wo; rw [if_pos rfl]
theorem wo_ne {H : Hp} {x b : Addr} (h : b ≠ x) : wo H x b = H b := by unfold wo; rw [if_neg h]
theorem wo_ex {H : Hp} {x : Addr} : Ex (wo H x) H := fun b o h => by
  by_cases e : b = x
  · rw [e, wo_self] at h; cases h
  · rwa [wo_ne e] at h
theorem wo_t {H : Hp} {x a : Addr} {xs : List V} {o : HO} (hx : H x = some o) (ho : ∀ u v, o ≠ .frz u v) (hn : ∀ ys, o ≠ .tup ys) (h : SqT K H a xs) : SqT K (wo H x) a xs := by
  rcases h with (h | ⟨u, h⟩) | h
  · refine .inl (.inl ?_)
    rw [wo_ne]
    · exact h
    · intro e; rw [e, hx] at h; exact hn xs (Option.some.inj h)
  · refine .inl (.inr ⟨u, ?_⟩)
    rw [wo_ne]
    · exact h
    · intro e; rw [e, hx] at h; exact ho u _ (Option.some.inj h)
  · exact .inr h
end
end Sw
namespace Sw
open PySem PySem.Spec PyProof.Rows L2 Evl
/-! ### walks of three, and of a tuple's items with their numbers -/
section
variable {K : PySem.W.Frag} {σ : L2.St} {H H' : Hp} {ta tb te tx tl : TE} {x y z v : V} {a b c : Addr} {xs ys zs : List V} {n : Nat}
def YTrip (xs ys zs : List V) : Nat → Hp → V → Hp → Prop := fun i H v H' => ∃ T x y z, v = .ref T ∧ H T = none ∧ H' = upd H T (.tup [x, y, z]) ∧ xs[i]? = some x ∧ ys[i]? = some y ∧ zs[i]? = some z
theorem walk_zip3 (lx : xs.length = n) (ly : ys.length = n) (lz : zs.length = n) : Walk (Itz3 K a b c) n (fun H => SqT K H a xs ∧ SqT K H b ys ∧ SqL K H c zs) (YTrip xs ys zs) := by
  refine ⟨fun i _ hi q => ⟨xs, ys, zs, xs[i]'(by omega), ys[i]'(by omega), zs[i]'(by omega), q.1, q.2.1, q.2.2, by simp, by simp, by simp⟩, fun _ q => ⟨xs, ys, zs, q.1, q.2.1, q.2.2, lx, ly, lz⟩, fun i H v H' _ q h => ?_⟩
  obtain ⟨T, x, y, z, h1, h2, h3, h4, h5, h6⟩ := h
  exact ⟨T, x, y, z, h1, h2, h3, h4 xs q.1, h5 ys q.2.1, h6 zs q.2.2⟩
theorem walk_enumT : Walk (IteT K a) xs.length (fun H => SqT K H a xs) (YPair (fun i => some (.int (i : Nat))) (fun i => xs[i]?)) := by
  refine ⟨fun i _ hi q => ⟨xs, xs[i], q, by simp⟩, fun _ q => ⟨xs, q, rfl⟩, fun i H v H' _ q h => ?_⟩
  obtain ⟨T, x, h1, h2, h3, h4⟩ := h
  exact ⟨T, .int (i : Nat), x, h1, h2, h3, rfl, h4 xs q⟩
variable {D : Ends} {tu tz : TS}
theorem q_forZ3 {tt : TA} {j1 j2 j3 : Nat} {G : Hp} (h : EvA tt σ H [.ref a, .ref b, .ref c]) (eG : Ex G H) (hx : SqT K G a xs) (hy : SqT K G b ys) (hz : SqL K G c zs) (lx : xs.length = n) (ly : ys.length = n) (lz : zs.length = n)
    (Pv : Nat → L2.St → Hp → Prop) (h0 : ∀ H1, Ex H H1 → Pv 0 σ H1) (hG : ∀ i σ' H', i ≤ n → Pv i σ' H' → Ex G H')
    (hs : ∀ i x y z σ' H', xs[i]? = some x → ys[i]? = some y → zs[i]? = some z → Pv i σ' H' → ∀ H2, Ex H' H2 → tu { D with nx := Pv (i + 1), ct := Pv (i + 1), bk := tz D } (((σ'.set j1 (some x)).set j2 (some y)).set j3 (some z)) H2)
    (hd : ∀ σ' H', Pv n σ' H' → tz D σ' H') : tSeq (tFor (iZip3 K tt) (gTup K 3 (gCons (gName j1) (gCons (gName j2) (gCons (gName j3) gNil)))) tu) tz D σ H :=
  h H (Ex.refl H) _ fun H1 e1 => ⟨a, b, c, xs, ys, zs, rfl, ex_t (eG.trans e1) hx, ex_t (eG.trans e1) hy, ex_l (eG.trans e1) hz,
    for_it (walk_zip3 lx ly lz) Pv (h0 H1 e1) (fun i σ' H' hi p => ⟨ex_t (hG i σ' H' hi p) hx, ex_t (hG i σ' H' hi p) hy, ex_l (hG i σ' H' hi p) hz⟩)
      (fun i v σ' H' H2 hi p q => by
        obtain ⟨T, x, y, z, rfl, hT, rfl, q1, q2, q3⟩ := q
        exact ⟨T, [x, y, z], rfl, st_of upd_same, rfl, x, [y, z], rfl, y, [z], rfl, z, [], rfl, rfl, hs i x y z σ' H' q1 q2 q3 p _ (Ex.new hT)⟩) hd⟩
/-- for i, x in enumerate(t), t a tuple -/
theorem s_forEnT {tt : TA} {j1 j2 : Nat} (h : EvA tt σ H [.ref a]) (hx : SqT K H a xs)
    (Pv : Nat → L2.St → Hp → Prop) (h0 : ∀ H1, Ex H H1 → Pv 0 σ H1) (hG : ∀ i σ' H', i ≤ xs.length → Pv i σ' H' → Ex H H')
    (hs : ∀ i x σ' H', xs[i]? = some x → Pv i σ' H' → ∀ H2, Ex H' H2 → tu { D with nx := Pv (i + 1), ct := Pv (i + 1), bk := D.nx } ((σ'.set j1 (some (.int (i : Nat)))).set j2 (some x)) H2)
    (hd : ∀ σ' H', Pv xs.length σ' H' → D.nx σ' H') : tFor (iEnumT K tt) (gTup K 2 (gCons (gName j1) (gCons (gName j2) gNil))) tu D σ H :=
  h H (Ex.refl H) _ fun H1 e1 => ⟨a, xs, rfl, ex_t e1 hx,
    for_it walk_enumT Pv (h0 H1 e1) (fun i σ' H' hi p => ex_t (hG i σ' H' hi p) hx)
      (fun i v σ' H' H2 hi p q => by
        obtain ⟨T, x, y, rfl, hT, rfl, q1, q2⟩ := q
        cases q1
        exact ⟨T, [.int (i : Nat), y], rfl, st_of upd_same, rfl, .int (i : Nat), [y], rfl, y, [], rfl, rfl, hs i y σ' H' q2 p _ (Ex.new hT)⟩) hd⟩
/-- [e for i, x in enumerate(t)] -/
theorem el_lcEnT {tt : TA} {j1 j2 : Nat} {vs : List Nat} (v : Nat → V) (h : EvA tt σ H [.ref a]) (hx : SqT K H a xs) (hz : xs.length ≤ 40000)
    (hw : ∀ x y, wipe (((wipe σ vs).set j1 (some x)).set j2 (some y)) vs = wipe σ vs)
    (he : ∀ (i : Nat) (x : V) H1, Ex H H1 → xs[i]? = some x → Ev te (((wipe σ vs).set j1 (some (.int (i : Nat)))).set j2 (some x)) H1 (v i)) :
    EvL (tLc (iEnumT K tt) (gTup K 2 (gCons (gName j1) (gCons (gName j2) gNil))) tYes te vs) σ H ((List.range xs.length).map v) := fun H0 e0 Q q =>
  h H0 e0 _ fun H1 e1 => ⟨a, xs, rfl, ex_t (e0.trans e1) hx, fun Dl hD => by
    rw [← given_all] at q
    refine lc_it (walk_enumT (xs := xs)) (Cw H1 (fun _ => true) v Dl) ⟨hD, Ex.new hD, upd_same⟩ (fun i H' _ p => ex_t ((e0.trans e1).trans p.2.1) hx) (fun i w H' H2 hi p y => ?_) (fun H' p => q Dl H' (fresh_back e1 p.1) (e1.trans p.2.1) p.2.2)
    obtain ⟨T, x, y, rfl, hT, rfl, q1, q2⟩ := y
    cases q1
    have p2 : Cw H1 (fun _ => true) v Dl i (upd H' T (.tup [.int (i : Nat), y])) := ⟨p.1, p.2.1.trans (Ex.new hT), by rw [upd_ne (ne_of_none p.2.2 hT)]; exact p.2.2⟩
    refine ⟨T, [.int (i : Nat), y], rfl, st_of upd_same, rfl, .int (i : Nat), [y], rfl, y, [], rfl, rfl, hw _ _, ?_⟩
    exact cw_turn p2 (by omega) et_yes (fun _ => he i y H1 (e0.trans e1) q2)⟩
/-- some tuple, some list of these items -/
def EvW (K : PySem.W.Frag) (te : TE) (σ : L2.St) (H : Hp) (xs : List V) : Prop := ∀ H1, Ex H H1 → ∀ Q : VK, (∀ p H2, Ex H1 H2 → SqT K H2 p xs → Q (.ref p) H2) → te σ H1 Q
def EvM (K : PySem.W.Frag) (te : TE) (σ : L2.St) (H : Hp) (xs : List V) : Prop := ∀ H1, Ex H H1 → ∀ Q : VK, (∀ p H2, Ex H1 H2 → SqL K H2 p xs → Q (.ref p) H2) → te σ H1 Q
theorem EvU.w (h : EvU te σ H xs) : EvW K te σ H xs := fun H1 e Q q => h H1 e Q fun p H2 _ e2 hp => q p H2 e2 (st_of hp)
theorem EvL.m (h : EvL te σ H xs) : EvM K te σ H xs := fun H1 e Q q => h H1 e Q fun p H2 _ e2 hp => q p H2 e2 (sq_of hp)
theorem ew_of (h : Ev te σ H (.ref a)) (hx : SqT K H a xs) : EvW K te σ H xs := fun H1 e Q q => h H1 e Q fun H2 e2 => q a H2 e2 (ex_t (e.trans e2) hx)
theorem em_of (h : Ev te σ H (.ref a)) (hx : SqL K H a xs) : EvM K te σ H xs := fun H1 e Q q => h H1 e Q fun H2 e2 => q a H2 e2 (ex_l (e.trans e2) hx)
theorem ev_sumW {ns : List Int} (h : EvW K ta σ H (ns.map V.int)) : Ev (tCB (rSumT K) (tCons ta tNil)) σ H (.int ns.sum) := fun H1 e Q q =>
  h H1 e _ fun p H2 e2 h2 => ⟨p, ns, rfl, h2, q H2 e2⟩
theorem ev_sumM {ns : List Int} (h : EvM K ta σ H (ns.map V.int)) : Ev (tCB (rSum K) (tCons ta tNil)) σ H (.int ns.sum) := fun H1 e Q q =>
  h H1 e _ fun p H2 e2 h2 => ⟨p, ns, rfl, h2, q H2 e2⟩
/-- t[:k] -/
theorem ew_take {th : TE} {k : Nat} (h : EvW K te σ H xs) (hk : Ev th σ H (.int (k : Int))) : EvW K (tSl (rSlA K) te tNoPart (tPart th)) σ H (xs.take k) := fun H1 e Q q =>
  h H1 e _ fun p H2 e2 h2 => hk H2 (e.trans e2) _ fun H3 e3 => ⟨(k : Int), rfl, p, xs, rfl, ex_t e3 h2, fun w => by
      have hi : min k xs.length = xs.length := by rw [← HT.sIx_nat xs.length xs.length k]; exact w.2
      have t : xs.take k = xs := List.take_of_length_le (by omega)
      rw [t] at q
      exact q p H3 (e2.trans e3) (ex_t e3 h2), fun _ r hr => by
      refine q r _ ((e2.trans e3).trans (Ex.new hr)) (st_of ?_)
      rw [upd_same]
      unfold cutV
      rw [HT.sIx_none, HT.sIx_nat]
      simp⟩
/-- xs[:k] of a list -/
theorem el_take {th : TE} {k : Nat} (h : EvM K te σ H xs) (hk : Ev th σ H (.int (k : Int))) : EvL (tSl (rSlL K) te tNoPart (tPart th)) σ H (xs.take k) := fun H1 e Q q =>
  h H1 e _ fun p H2 e2 h2 => hk H2 (e.trans e2) _ fun H3 e3 => ⟨(k : Int), rfl, p, xs, rfl, ex_l e3 h2, fun r hr => by
      refine q r _ (fresh_back (e2.trans e3) hr) ((e2.trans e3).trans (Ex.new hr)) ?_
      rw [upd_same]
      unfold cutV
      rw [HT.sIx_none, HT.sIx_nat]
      simp⟩
end
end Sw
namespace Sw
open PySem PySem.Spec PyProof.Rows L2 Evl
/-! ### max of a tuple of numbers -/
section
variable {prog : Program} {w : World} {A : Around} {E : Value → Shared → Prop} {s : Shared} {t : Addr} {xs : Array (Int × Tok)}
theorem max_intTup {Q : Value → Shared → Prop} (hh : A.handled = none) (ht : s.heap.IsTuple t (intItems xs)) (hne : 0 < xs.size)
    (h : ∀ v h' tk, (intItems xs)[argBest (fun i j => decide (numAt xs i > numAt xs j)) (xs.size - 1)]? = some v → (∀ b o, s.heap.get? b = some o → h'.get? b = some o) → Q v { s with heap := h', toks := tk }) :
    wpAny (model prog w) A (call (.builtin "max") [.ref t]) Q E s := by
  obtain ⟨o, ho, _, _, _⟩ := id ht
  have hlt : t < s.heap.objs.size := Heap.lt_size ho
  have hne' : t ≠ s.heap.objs.size := Nat.ne_of_lt hlt
  refine call_max_walk (wpAny_pyIter_tuple ht ?_)
  refine ⟨_, _, _, _, _, _, _, rfl, Walks.tuple (A := A.in1) hh _ t hne' (intItems xs), ⟨⟨_, Heap.get?_push_size _ rfl, rfl, rfl⟩, ht.at fun o e => Heap.get?_push_of_some _ e⟩, fun b hb => ?_, by simpa [intItems] using hne, CmpOf.ints_gt (numAt xs) (fun _ _ => intItems_at), fun v h' tk hP hk => ?_⟩
  · show b < (s.heap.push _).objs.size
    rw [Heap.size_push]
    rcases List.mem_cons.mp hb with rfl | hb
    · exact Nat.lt_succ_self _
    · rw [List.mem_singleton.mp hb]; exact Nat.lt_succ_of_lt hlt
  · refine h v h' tk (by simpa [intItems] using hP) fun b o e => hk b o (fun hm => ?_) (Heap.get?_push_of_some _ e)
    exact absurd (List.mem_singleton.mp hm ▸ Heap.lt_size e) (Nat.lt_irrefl _)
end
section
variable {X : Cx}
def rMaxT (K : PySem.W.Frag) : List V → Hp → VK → Prop := fun vs H Q => ∃ (a : Addr) (ns : List Int), vs = [V.ref a] ∧ SqT K H a (ns.map V.int) ∧ 0 < ns.length ∧ ∀ m, m ∈ ns → (∀ y, y ∈ ns → y ≤ m) → Q (.int m) H
theorem cr_maxT (hc : X.calm = true) : CallR X (.builtin "max") (rMaxT X.K) := by
  intro pins s σ H vs us Q I r h
  obtain ⟨a, ns, rfl, hs, hne, q⟩ := h
  obtain ⟨its, rv, hl, _⟩ := I.tuple hs
  rw [Vals.ref1 r]
  obtain ⟨xs, e⟩ := rv.ints.allInts.items
  have hn : numsOf (intItems xs).toList = ns := by rw [← e]; exact rv.ints.numsOf
  rw [nums_intItems] at hn
  subst hn
  have hl' : s.heap.IsTuple a (intItems xs) := by rw [← e]; exact hl
  have hsz : 0 < xs.size := by simpa using hne
  refine max_intTup (I.ok.hd hc) hl' hsz fun v h' tk hv hk => ?_
  obtain ⟨t', rfl⟩ := intItems_at hv
  obtain ⟨h1, h2⟩ := argBest_gt (numAt xs) (xs.size - 1)
  refine ⟨.int _, H, I.kept hk, ⟨t', rfl⟩, q _ ?_ fun y hy => ?_⟩
  · rw [numAt_eq]; exact PySem.getD_mem (by rw [List.length_map, Array.length_toList]; omega)
  · obtain ⟨j, hj, rfl⟩ := mem_getD hy
    rw [List.length_map, Array.length_toList] at hj
    rw [← numAt_eq]; exact h2 j (by omega)
end
theorem ev_maxT {K : PySem.W.Frag} {σ : L2.St} {H : Hp} {ta : TE} {a : Addr} {ns : List Int} {Qm : Int → Prop} (h : Ev ta σ H (.ref a)) (hx : SqT K H a (ns.map V.int)) (h0 : 0 < ns.length) :
    ∀ H1, Ex H H1 → ∀ Q : VK, (∀ m H2, Ex H1 H2 → m ∈ ns → (∀ y ∈ ns, y ≤ m) → Q (.int m) H2) → tCB (rMaxT K) (tCons ta tNil) σ H1 Q := fun H1 e Q q =>
  h H1 e _ fun H2 e2 => ⟨a, ns, rfl, ex_t (e.trans e2) hx, h0, fun m hm hle => q m H2 e2 hm hle⟩
end Sw
namespace Sw
open PySem PySem.Spec PyProof.Rows L2 Evl
section
variable {K : PySem.W.Frag} {σ : L2.St} {H H' : Hp} {ta tb te tl : TE} {x y z v : V} {a b : Addr} {xs ys : List V}
theorem ev_isN (h : Ev ta σ H x) : Ev (tIsN ta) σ H (.bl (decide (x = .non))) := fun H1 e1 Q q => h H1 e1 _ fun H2 e2 => q H2 e2
theorem ev_eqNil (ha : EvL ta σ H xs) (hb : EvL tb σ H []) (hx : xs = []) : Ev (tOp (rEqD K) ta tb) σ H (.bl true) := ev_opLL ha hb fun p q H1 hp hq _ => fun H2 e2 Q k => by
  subst hx
  exact ⟨.list [], .list [], .lst (sq_of (e2 _ _ hp)) .nil, .lst (sq_of (e2 _ _ hq)) .nil, by decide, by decide, by
    have : PyData.eqv (.list []) (.list []) = true := by decide
    rw [this]; exact k H2 (Ex.refl _)⟩
theorem given_none {n : Nat} {f : Nat → Bool} {v : Nat → V} (h : ∀ i, i < n → f i = false) : given n f v = [] := by
  unfold given
  have : (List.range n).filter f = [] := List.filter_eq_nil_iff.mpr fun i hi => by rw [h i (List.mem_range.mp hi)]; decide
  rw [this]; rfl
/-- two new lists, joined -/
theorem el_catN (ha : EvL ta σ H xs) (hb : EvL tb σ H ys) (hz : xs.length + ys.length ≤ 100000) : EvL (tOp rCat ta tb) σ H (xs ++ ys) := fun H1 e Q q =>
  ha H1 e _ fun p H2 _ e2 hp => hb H2 (e.trans e2) _ fun r H3 _ e3 hr => ⟨p, r, xs, ys, rfl, rfl, e3 _ _ hp, hr, sz_of hz, fun t ht => q t _ (fresh_back (e2.trans e3) ht) ((e2.trans e3).trans (Ex.new ht)) upd_same⟩
theorem el_lcRb {t : TA} {j : Nat} {vs : List Nat} {lo n : Int} (v : Nat → V) (h : EvA t σ H [.int lo, .int n]) (hn : 0 ≤ lo ∧ lo ≤ 10000 ∧ 0 ≤ n ∧ n ≤ 10000) (hw : ∀ x, wipe ((wipe σ vs).set j (some x)) vs = wipe σ vs)
    (he : ∀ (i : Nat) H1, Ex H H1 → lo + (i : Int) < n → Ev te ((wipe σ vs).set j (some (.int (lo + (i : Int))))) H1 (v i)) : EvL (tLc (iRng2 t) (gName j) tYes te vs) σ H ((List.range (n - lo).toNat).map v) := fun H0 e Q q => h H0 e _ fun H1 e1 => by
  rw [← given_all] at q
  exact ⟨lo, n, rfl, ⟨by omega, by omega, by omega, by omega⟩, fun Dl hD =>
    lc_range (lo := lo) (n := (n - lo).toNat) (Cw H1 (fun _ => true) v Dl) ⟨hD, Ex.new hD, upd_same⟩ (fun i H' hi p => ⟨hw _, cw_turn p (by omega) et_yes (fun _ => he i H1 (e.trans e1) (by omega))⟩) (fun H' p => q Dl H' (fresh_back e1 p.1) (e1.trans p.2.1) p.2.2)⟩
end
end Sw
namespace Sw
open PySem PySem.Spec PyProof.Rows L2 Evl
/-- the heap, the objects of N forgotten -/
noncomputable def wn (H : Hp) (N : Addr → Prop) : Hp := fun b => @ite _ (N b) (Classical.propDecidable _) none (H b)
theorem wn_in {H : Hp} {N : Addr → Prop} {b : Addr} (h : N b) : wn H N b = none := by unfold wn; rw [if_pos h]
theorem wn_ni {H : Hp} {N : Addr → Prop} {b : Addr} (h : ¬ N b) : wn H N b = H b := by unfold wn; rw [if_neg h]
theorem wn_some {H : Hp} {N : Addr → Prop} {b : Addr} {o : HO} (h : wn H N b = some o) : ¬ N b ∧ H b = some o := by
  by_cases q : N b
  · rw [wn_in q] at h; cases h
  · rw [wn_ni q] at h; exact ⟨q, h⟩
theorem wn_ex {H : Hp} {N : Addr → Prop} : Ex (wn H N) H := fun _ _ h => (wn_some h).2
theorem wn_mono {H H' : Hp} {N : Addr → Prop} (e : Ex H H') : Ex (wn H N) (wn H' N) := fun b o h => by
  obtain ⟨q, h1⟩ := wn_some h
  rw [wn_ni q]; exact e b o h1
theorem wn_upd {H : Hp} {N : Addr → Prop} {x : Addr} {o : HO} (hx : N x) : Ex (wn H N) (wn (upd H x o) N) := fun b u h => by
  obtain ⟨q, h1⟩ := wn_some h
  have nb : b ≠ x := fun z => q (by rw [z]; exact hx)
  rw [wn_ni q, upd_ne nb]; exact h1
theorem wn_sub {H : Hp} {N M : Addr → Prop} (h : ∀ b, N b → M b) : Ex (wn H M) (wn H N) := fun b o q => by
  obtain ⟨q1, h1⟩ := wn_some q
  rw [wn_ni fun z => q1 (h b z)]; exact h1
theorem wn_t {K : PySem.W.Frag} {H : Hp} {N : Addr → Prop} {a : Addr} {xs : List V} (ha : ¬ N a) (h : SqT K H a xs) : SqT K (wn H N) a xs := by
  rcases h with (h | ⟨u, h⟩) | h
  · exact .inl (.inl (by rw [wn_ni ha]; exact h))
  · exact .inl (.inr ⟨u, by rw [wn_ni ha]; exact h⟩)
  · exact .inr h
def nx (x : Addr) (N : Addr → Prop) : Addr → Prop := fun b => b = x ∨ N b
theorem wn_tx {K : PySem.W.Frag} {H : Hp} {N : Addr → Prop} {x a C dx : Addr} {fs : List (Str × V)} {xs : List V} (hx : H x = some (.ins C dx fs)) (h : SqT K (wn H N) a xs) : SqT K (wn H (nx x N)) a xs := by
  have go : ∀ u, wn H N a = some u → (∀ C dx fs, u ≠ .ins C dx fs) → wn H (nx x N) a = some u := fun u hu hne => by
    obtain ⟨q, h1⟩ := wn_some hu
    rw [wn_ni]
    · exact h1
    · rintro (e | e)
      · rw [e, hx] at h1; exact hne _ _ _ (Option.some.inj h1).symm
      · exact q e
  rcases h with (h | ⟨u, h⟩) | h
  · exact .inl (.inl (go _ h (fun _ _ _ q => nomatch q)))
  · exact .inl (.inr ⟨u, go _ h (fun _ _ _ q => nomatch q)⟩)
  · exact .inr h
end Sw
namespace Sw
open PySem PySem.Spec PyProof.Rows L2 Evl
/-! ### min of a tuple of numbers -/
section
variable {prog : Program} {w : World} {A : Around} {E : Value → Shared → Prop} {s : Shared} {t : Addr} {xs : Array (Int × Tok)}
theorem min_intTup {Q : Value → Shared → Prop} (hh : A.handled = none) (ht : s.heap.IsTuple t (intItems xs)) (hne : 0 < xs.size)
    (h : ∀ v h' tk, (intItems xs)[argBest (fun i j => decide (numAt xs i < numAt xs j)) (xs.size - 1)]? = some v → (∀ b o, s.heap.get? b = some o → h'.get? b = some o) → Q v { s with heap := h', toks := tk }) :
    wpAny (model prog w) A (call (.builtin "min") [.ref t]) Q E s := by
  obtain ⟨o, ho, _, _, _⟩ := id ht
  have hlt : t < s.heap.objs.size := Heap.lt_size ho
  have hne' : t ≠ s.heap.objs.size := Nat.ne_of_lt hlt
  refine call_min_walk (wpAny_pyIter_tuple ht ?_)
  refine ⟨_, _, _, _, _, _, _, rfl, Walks.tuple (A := A.in1) hh _ t hne' (intItems xs), ⟨⟨_, Heap.get?_push_size _ rfl, rfl, rfl⟩, ht.at fun o e => Heap.get?_push_of_some _ e⟩, fun b hb => ?_, by simpa [intItems] using hne, CmpOf.ints_lt (numAt xs) (fun _ _ => intItems_at), fun v h' tk hP hk => ?_⟩
  · show b < (s.heap.push _).objs.size
    rw [Heap.size_push]
    rcases List.mem_cons.mp hb with rfl | hb
    · exact Nat.lt_succ_self _
    · rw [List.mem_singleton.mp hb]; exact Nat.lt_succ_of_lt hlt
  · refine h v h' tk (by simpa [intItems] using hP) fun b o e => hk b o (fun hm => ?_) (Heap.get?_push_of_some _ e)
    exact absurd (List.mem_singleton.mp hm ▸ Heap.lt_size e) (Nat.lt_irrefl _)
end
section
variable {X : Cx}
def rMinT (K : PySem.W.Frag) : List V → Hp → VK → Prop := fun vs H Q => ∃ (a : Addr) (ns : List Int), vs = [V.ref a] ∧ SqT K H a (ns.map V.int) ∧ 0 < ns.length ∧ ∀ m, m ∈ ns → (∀ y, y ∈ ns → m ≤ y) → Q (.int m) H
theorem cr_minT (hc : X.calm = true) : CallR X (.builtin "min") (rMinT X.K) := by
  intro pins s σ H vs us Q I r h
  obtain ⟨a, ns, rfl, hs, hne, q⟩ := h
  obtain ⟨its, rv, hl, _⟩ := I.tuple hs
  rw [Vals.ref1 r]
  obtain ⟨xs, e⟩ := rv.ints.allInts.items
  have hn : numsOf (intItems xs).toList = ns := by rw [← e]; exact rv.ints.numsOf
  rw [nums_intItems] at hn
  subst hn
  have hl' : s.heap.IsTuple a (intItems xs) := by rw [← e]; exact hl
  have hsz : 0 < xs.size := by simpa using hne
  refine min_intTup (I.ok.hd hc) hl' hsz fun v h' tk hv hk => ?_
  obtain ⟨t', rfl⟩ := intItems_at hv
  obtain ⟨h1, h2⟩ := argBest_lt (numAt xs) (xs.size - 1)
  refine ⟨.int _, H, I.kept hk, ⟨t', rfl⟩, q _ ?_ fun y hy => ?_⟩
  · rw [numAt_eq]; exact PySem.getD_mem (by rw [List.length_map, Array.length_toList]; omega)
  · obtain ⟨j, hj, rfl⟩ := mem_getD hy
    rw [List.length_map, Array.length_toList] at hj
    rw [← numAt_eq]; exact h2 j (by omega)
end
theorem ev_minW0 {K : PySem.W.Frag} {σ : L2.St} {H : Hp} {ta : TE} {ns : List Int} {bot : Int} (h : EvW K ta σ H (ns.map V.int)) (h0 : bot ∈ ns) (h1 : ∀ y ∈ ns, bot ≤ y) : Ev (tCB (rMinT K) (tCons ta tNil)) σ H (.int bot) := fun H1 e Q q =>
  h H1 e _ fun p H2 e2 h2 => ⟨p, ns, rfl, h2, List.length_pos_of_mem h0, fun m hm hle => by
    have e : m = bot := Int.le_antisymm (hle bot h0) (h1 m hm)
    rw [e]; exact q H2 e2⟩
theorem exists_bot : ∀ {xs : List Int}, 0 < xs.length → ∃ t, t ∈ xs ∧ ∀ y ∈ xs, t ≤ y
  | [], h => absurd h (by decide)
  | [x], _ => ⟨x, by simp, by simp⟩
  | x :: y :: r, _ => by
    obtain ⟨t, ht, hm⟩ := exists_bot (xs := y :: r) (by simp)
    rcases Int.le_total x t with z | z
    · exact ⟨x, List.mem_cons_self, fun u hu => by rcases List.mem_cons.mp hu with e | e; omega; have := hm u e; omega⟩
    · exact ⟨t, List.mem_cons_of_mem _ ht, fun u hu => by rcases List.mem_cons.mp hu with e | e; omega; exact hm u e⟩
end Sw
namespace Sw
open PySem PySem.Spec PyProof.Rows L2 Evl
theorem fnR_of {P : Program} {w : World} {K : PySem.W.Frag} {mg : Str → Option Value} {base : Heap} {CX : CXT} {k : Nat} {f : Addr} {fd : FuncData} {ps : List Str} {sp : Sp} (F : FnOk P w K mg base CX k f fd ps sp) (hb : Binds K fd ps []) : FnR P w K mg base CX k f sp :=
  (F.raw hb .nil).imp fun vs H Q E h => by rw [List.append_nil]; exact h
end Sw
namespace Sw
open PySem PySem.Spec PyProof.Rows L2 Evl
def topS (i : Nat) : Stmt := PySem.Challenge.pw_staleloaves_k45_best_baking.main.body.getD i (.Pass ⟨0, 0, 0, 0⟩)
abbrev s_count_keepable : Stmt := topS 2
abbrev n_count_keepable : List Str := ["bakes", "life", "length", "at", "age"]
abbrev p_count_keepable : List Str := ["bakes", "life"]
theorem sc_count_keepable : FnScope n_count_keepable p_count_keepable (defScope s_count_keepable) := ⟨rfl, rfl, rfl, by decide +kernel, rfl, by decide +kernel, by decide +kernel⟩
abbrev s_Course___init__ : Stmt := inClass (topS 3) 0
abbrev n_Course___init__ : List Str := ["self", "bakes", "demands", "life"]
abbrev p_Course___init__ : List Str := ["self", "bakes", "demands", "life"]
theorem sc_Course___init__ : FnScope n_Course___init__ p_Course___init__ (defScope s_Course___init__) := ⟨rfl, rfl, rfl, by decide +kernel, rfl, by decide +kernel, by decide +kernel⟩
abbrev s_Course_find_settled : Stmt := inClass (topS 3) 5
abbrev n_Course_find_settled : List Str := ["self", "rounds", "stocks", "later", "at"]
abbrev p_Course_find_settled : List Str := ["self"]
theorem sc_Course_find_settled : FnScope n_Course_find_settled p_Course_find_settled (defScope s_Course_find_settled) := ⟨rfl, rfl, rfl, by decide +kernel, rfl, by decide +kernel, by decide +kernel⟩
abbrev s_Course_sum_settled_round : Stmt := inClass (topS 3) 6
abbrev n_Course_sum_settled_round : List Str := ["self", "missed", "sold"]
abbrev p_Course_sum_settled_round : List Str := ["self"]
theorem sc_Course_sum_settled_round : FnScope n_Course_sum_settled_round p_Course_sum_settled_round (defScope s_Course_sum_settled_round) := ⟨rfl, rfl, rfl, by decide +kernel, rfl, by decide +kernel, by decide +kernel⟩
abbrev s_Course__play_round : Stmt := inClass (topS 3) 7
abbrev n_Course__play_round : List Str := ["self", "stock", "stocks", "bake", "demand", "most", "left"]
abbrev p_Course__play_round : List Str := ["self", "stock"]
theorem sc_Course__play_round : FnScope n_Course__play_round p_Course__play_round (defScope s_Course__play_round) := ⟨rfl, rfl, rfl, by decide +kernel, rfl, by decide +kernel, by decide +kernel⟩
abbrev s_Course__stocks_in : Stmt := inClass (topS 3) 8
abbrev n_Course__stocks_in : List Str := ["self", "rounds", "start"]
abbrev p_Course__stocks_in : List Str := ["self", "rounds"]
theorem sc_Course__stocks_in : FnScope n_Course__stocks_in p_Course__stocks_in (defScope s_Course__stocks_in) := ⟨rfl, rfl, rfl, by decide +kernel, rfl, by decide +kernel, by decide +kernel⟩
abbrev s_Course__misses_in : Stmt := inClass (topS 3) 9
abbrev n_Course__misses_in : List Str := ["self", "rounds", "stocks", "at", "demand"]
abbrev p_Course__misses_in : List Str := ["self", "rounds"]
theorem sc_Course__misses_in : FnScope n_Course__misses_in p_Course__misses_in (defScope s_Course__misses_in) := ⟨rfl, rfl, rfl, by decide +kernel, rfl, by decide +kernel, by decide +kernel⟩
abbrev s_Course__count_growing : Stmt := inClass (topS 3) 10
abbrev n_Course__count_growing : List Str := ["self"]
abbrev p_Course__count_growing : List Str := ["self"]
theorem sc_Course__count_growing : FnScope n_Course__count_growing p_Course__count_growing (defScope s_Course__count_growing) := ⟨rfl, rfl, rfl, by decide +kernel, rfl, by decide +kernel, by decide +kernel⟩
abbrev s_check_number : Stmt := topS 12
abbrev n_check_number : List Str := ["number", "lowest", "highest"]
abbrev p_check_number : List Str := ["number", "lowest", "highest"]
theorem sc_check_number : FnScope n_check_number p_check_number (defScope s_check_number) := ⟨rfl, rfl, rfl, by decide +kernel, rfl, by decide +kernel, by decide +kernel⟩
abbrev s_check_amounts : Stmt := topS 20
abbrev n_check_amounts : List Str := ["part", "amounts", "at", "amount"]
abbrev p_check_amounts : List Str := ["part", "amounts"]
theorem sc_check_amounts : FnScope n_check_amounts p_check_amounts (defScope s_check_amounts) := ⟨rfl, rfl, rfl, by decide +kernel, rfl, by decide +kernel, by decide +kernel⟩
abbrev s_check_life : Stmt := topS 21
abbrev n_check_life : List Str := ["life"]
abbrev p_check_life : List Str := ["life"]
theorem sc_check_life : FnScope n_check_life p_check_life (defScope s_check_life) := ⟨rfl, rfl, rfl, by decide +kernel, rfl, by decide +kernel, by decide +kernel⟩
abbrev s_check_bakery : Stmt := topS 22
abbrev n_check_bakery : List Str := ["bakes", "demands", "life"]
abbrev p_check_bakery : List Str := ["bakes", "demands", "life"]
theorem sc_check_bakery : FnScope n_check_bakery p_check_bakery (defScope s_check_bakery) := ⟨rfl, rfl, rfl, by decide +kernel, rfl, by decide +kernel, by decide +kernel⟩
abbrev s_Bakery___init__ : Stmt := inClass (topS 23) 2
abbrev n_Bakery___init__ : List Str := ["self", "bakes", "demands", "life"]
abbrev p_Bakery___init__ : List Str := ["self", "bakes", "demands", "life"]
theorem sc_Bakery___init__ : FnScope n_Bakery___init__ p_Bakery___init__ (defScope s_Bakery___init__) := ⟨rfl, rfl, rfl, by decide +kernel, rfl, by decide +kernel, by decide +kernel⟩
abbrev s_Bakery_bakes : Stmt := inClass (topS 23) 3
abbrev n_Bakery_bakes : List Str := ["self"]
abbrev p_Bakery_bakes : List Str := ["self"]
theorem sc_Bakery_bakes : FnScope n_Bakery_bakes p_Bakery_bakes (defScope s_Bakery_bakes) := ⟨rfl, rfl, rfl, by decide +kernel, rfl, by decide +kernel, by decide +kernel⟩
abbrev s_Bakery_long_run : Stmt := inClass (topS 23) 7
abbrev n_Bakery_long_run : List Str := ["self"]
abbrev p_Bakery_long_run : List Str := ["self"]
theorem sc_Bakery_long_run : FnScope n_Bakery_long_run p_Bakery_long_run (defScope s_Bakery_long_run) := ⟨rfl, rfl, rfl, by decide +kernel, rfl, by decide +kernel, by decide +kernel⟩
abbrev s_Bakery_baking_more : Stmt := inClass (topS 23) 9
abbrev n_Bakery_baking_more : List Str := ["self", "count", "bake"]
abbrev p_Bakery_baking_more : List Str := ["self", "count"]
theorem sc_Bakery_baking_more : FnScope n_Bakery_baking_more p_Bakery_baking_more (defScope s_Bakery_baking_more) := ⟨rfl, rfl, rfl, by decide +kernel, rfl, by decide +kernel, by decide +kernel⟩
abbrev s_check_price : Stmt := topS 15
abbrev n_check_price : List Str := ["part", "cents"]
abbrev p_check_price : List Str := ["part", "cents"]
theorem sc_check_price : FnScope n_check_price p_check_price (defScope s_check_price) := ⟨rfl, rfl, rfl, by decide +kernel, rfl, by decide +kernel, by decide +kernel⟩
abbrev s_Prices___init__ : Stmt := inClass (topS 16) 0
abbrev n_Prices___init__ : List Str := ["self", "sale", "cost", "waste"]
abbrev p_Prices___init__ : List Str := ["self", "sale", "cost", "waste"]
theorem sc_Prices___init__ : FnScope n_Prices___init__ p_Prices___init__ (defScope s_Prices___init__) := ⟨rfl, rfl, rfl, by decide +kernel, rfl, by decide +kernel, by decide +kernel⟩
abbrev s_Prices_cents : Stmt := inClass (topS 16) 1
abbrev n_Prices_cents : List Str := ["self"]
abbrev p_Prices_cents : List Str := ["self"]
theorem sc_Prices_cents : FnScope n_Prices_cents p_Prices_cents (defScope s_Prices_cents) := ⟨rfl, rfl, rfl, by decide +kernel, rfl, by decide +kernel, by decide +kernel⟩
abbrev s_Prices___call__ : Stmt := inClass (topS 16) 2
abbrev n_Prices___call__ : List Str := ["self", "baked", "sold", "thrown", "sale", "cost", "waste"]
abbrev p_Prices___call__ : List Str := ["self", "baked", "sold", "thrown"]
theorem sc_Prices___call__ : FnScope n_Prices___call__ p_Prices___call__ (defScope s_Prices___call__) := ⟨rfl, rfl, rfl, by decide +kernel, rfl, by decide +kernel, by decide +kernel⟩
abbrev s_round_profit : Stmt := topS 17
abbrev n_round_profit : List Str := ["bakery", "prices", "sold", "_", "thrown"]
abbrev p_round_profit : List Str := ["bakery", "prices"]
theorem sc_round_profit : FnScope n_round_profit p_round_profit (defScope s_round_profit) := ⟨rfl, rfl, rfl, by decide +kernel, rfl, by decide +kernel, by decide +kernel⟩
abbrev s_best_more : Stmt := topS 18
abbrev n_best_more : List Str := ["bakery", "prices", "low", "high", "middle", "here"]
abbrev p_best_more : List Str := ["bakery", "prices"]
theorem sc_best_more : FnScope n_best_more p_best_more (defScope s_best_more) := ⟨rfl, rfl, rfl, by decide +kernel, rfl, by decide +kernel, by decide +kernel⟩
abbrev s__law_start : Stmt := topS 25
abbrev n__law_start : List Str := ["_law_script", "_law_mixed", "_law_cell"]
abbrev p__law_start : List Str := ["_law_script"]
theorem sc__law_start : FnScope n__law_start p__law_start (defScope s__law_start) := ⟨rfl, rfl, rfl, by decide +kernel, rfl, by decide +kernel, by decide +kernel⟩
abbrev s__law_drawn : Stmt := topS 26
abbrev n__law_drawn : List Str := ["_law_state", "_law_count", "_law_result", "_law_cell"]
abbrev p__law_drawn : List Str := ["_law_state", "_law_count"]
theorem sc__law_drawn : FnScope n__law_drawn p__law_drawn (defScope s__law_drawn) := ⟨rfl, rfl, rfl, by decide +kernel, rfl, by decide +kernel, by decide +kernel⟩
abbrev s__law_amounts : Stmt := topS 28
abbrev n__law_amounts : List Str := ["_law_state", "_law_size", "_law_high", "_law_k"]
abbrev p__law_amounts : List Str := ["_law_state", "_law_size", "_law_high"]
theorem sc__law_amounts : FnScope n__law_amounts p__law_amounts (defScope s__law_amounts) := ⟨rfl, rfl, rfl, by decide +kernel, rfl, by decide +kernel, by decide +kernel⟩
abbrev s_law : Stmt := topS 31
abbrev n_law : List Str := ["_law_script", "_law_state", "_law_turn", "_law_high", "_law_size", "_law_bakes", "_law_demands", "_law_bakery", "_law_prices", "_law_more", "_law_best", "_law_low", "_law_top", "_law_others", "_law_other", "_law_found", "_law_k"]
abbrev p_law : List Str := ["_law_script"]
theorem sc_law : FnScope n_law p_law (defScope s_law) := ⟨rfl, rfl, rfl, by decide +kernel, rfl, by decide +kernel, by decide +kernel⟩
structure Ad where
  c_Course : Addr
  c_Prices : Addr
  c_Bakery : Addr
  mc_Course : Value
  mc_Prices : Value
  mc_Bakery : Value
  pr_Bakery_bakes : Addr
  pr_Bakery_long_run : Addr
  pr_Prices_cents : Addr
  t_MOST_LOAVES : Tok
  t_MOST_CENTS : Tok
  f_count_keepable : Addr
  d_count_keepable : FuncData
  f_Course___init__ : Addr
  d_Course___init__ : FuncData
  f_Course_find_settled : Addr
  d_Course_find_settled : FuncData
  f_Course_sum_settled_round : Addr
  d_Course_sum_settled_round : FuncData
  f_Course__play_round : Addr
  d_Course__play_round : FuncData
  f_Course__stocks_in : Addr
  d_Course__stocks_in : FuncData
  f_Course__misses_in : Addr
  d_Course__misses_in : FuncData
  f_Course__count_growing : Addr
  d_Course__count_growing : FuncData
  f_check_number : Addr
  d_check_number : FuncData
  f_check_amounts : Addr
  d_check_amounts : FuncData
  f_check_life : Addr
  d_check_life : FuncData
  f_check_bakery : Addr
  d_check_bakery : FuncData
  f_Bakery___init__ : Addr
  d_Bakery___init__ : FuncData
  f_Bakery_bakes : Addr
  d_Bakery_bakes : FuncData
  f_Bakery_long_run : Addr
  d_Bakery_long_run : FuncData
  f_Bakery_baking_more : Addr
  d_Bakery_baking_more : FuncData
  f_check_price : Addr
  d_check_price : FuncData
  f_Prices___init__ : Addr
  d_Prices___init__ : FuncData
  f_Prices_cents : Addr
  d_Prices_cents : FuncData
  f_Prices___call__ : Addr
  d_Prices___call__ : FuncData
  f_round_profit : Addr
  d_round_profit : FuncData
  f_best_more : Addr
  d_best_more : FuncData
  f__law_start : Addr
  d__law_start : FuncData
  f__law_drawn : Addr
  d__law_drawn : FuncData
  f__law_amounts : Addr
  d__law_amounts : FuncData
  f_law : Addr
  d_law : FuncData
structure Txt (K : PySem.W.Frag) (mg : Str → Option Value) (Z : Ad) : Prop where
  cl_Course : Cls K Z.c_Course
  g_Course : mg "Course" = some (.ref Z.c_Course)
  mk_Course : Mk K Z.c_Course Z.f_Course___init__
  na_Course__bakes : NoAttr K Z.c_Course "_bakes"
  na_Course__demands : NoAttr K Z.c_Course "_demands"
  na_Course__keepable : NoAttr K Z.c_Course "_keepable"
  na_Course__gain : NoAttr K Z.c_Course "_gain"
  na_Course__first_end : NoAttr K Z.c_Course "_first_end"
  na_Course__full_end : NoAttr K Z.c_Course "_full_end"
  na_Course__first_misses : NoAttr K Z.c_Course "_first_misses"
  na_Course__later_misses : NoAttr K Z.c_Course "_later_misses"
  cl_Prices : Cls K Z.c_Prices
  g_Prices : mg "Prices" = some (.ref Z.c_Prices)
  mk_Prices : Mk K Z.c_Prices Z.f_Prices___init__
  na_Prices__cents : NoAttr K Z.c_Prices "_cents"
  cl_Bakery : Cls K Z.c_Bakery
  g_Bakery : mg "Bakery" = some (.ref Z.c_Bakery)
  mk_Bakery : Mk K Z.c_Bakery Z.f_Bakery___init__
  na_Bakery__bakes : NoAttr K Z.c_Bakery "_bakes"
  na_Bakery__demands : NoAttr K Z.c_Bakery "_demands"
  na_Bakery__life : NoAttr K Z.c_Bakery "_life"
  na_Bakery_course : NoAttr K Z.c_Bakery "course"
  na_Bakery__settled_day : NoAttr K Z.c_Bakery "_settled_day"
  na_Bakery__long_run : NoAttr K Z.c_Bakery "_long_run"
  cv_Bakery_MAX_DAYS : ClX.CRead K Z.c_Bakery Z.mc_Bakery ∧ ∃ u, ClX.CVal K Z.c_Bakery Z.mc_Bakery "MAX_DAYS" (.int 24) u
  cv_Bakery_MAX_LIFE : ClX.CRead K Z.c_Bakery Z.mc_Bakery ∧ ∃ u, ClX.CVal K Z.c_Bakery Z.mc_Bakery "MAX_LIFE" (.int 30) u
  g_MOST_LOAVES : mg "MOST_LOAVES" = some (.int 1000000000 Z.t_MOST_LOAVES)
  g_MOST_CENTS : mg "MOST_CENTS" = some (.int 1000000 Z.t_MOST_CENTS)
  b_enumerate : mg "enumerate" = none
  b_int : mg "int" = none
  b_len : mg "len" = none
  b_list : mg "list" = none
  b_max : mg "max" = none
  b_min : mg "min" = none
  b_range : mg "range" = none
  b_sum : mg "sum" = none
  b_tuple : mg "tuple" = none
  b_zip : mg "zip" = none
  co_Prices : StX.CallO K Z.c_Prices Z.f_Prices___call__
  F_count_keepable : Fun K "count_keepable" "count_keepable" s_count_keepable Z.f_count_keepable Z.d_count_keepable
  b_count_keepable : Binds K Z.d_count_keepable p_count_keepable []
  g_count_keepable : mg "count_keepable" = some (.ref Z.f_count_keepable)
  F_Course___init__ : Fun K "__init__" "Course.__init__" s_Course___init__ Z.f_Course___init__ Z.d_Course___init__
  b_Course___init__ : Binds K Z.d_Course___init__ p_Course___init__ []
  F_Course_find_settled : Fun K "find_settled" "Course.find_settled" s_Course_find_settled Z.f_Course_find_settled Z.d_Course_find_settled
  b_Course_find_settled : Binds K Z.d_Course_find_settled p_Course_find_settled []
  m_Course_find_settled : Meth K Z.c_Course "find_settled" Z.f_Course_find_settled
  F_Course_sum_settled_round : Fun K "sum_settled_round" "Course.sum_settled_round" s_Course_sum_settled_round Z.f_Course_sum_settled_round Z.d_Course_sum_settled_round
  b_Course_sum_settled_round : Binds K Z.d_Course_sum_settled_round p_Course_sum_settled_round []
  m_Course_sum_settled_round : Meth K Z.c_Course "sum_settled_round" Z.f_Course_sum_settled_round
  F_Course__play_round : Fun K "_play_round" "Course._play_round" s_Course__play_round Z.f_Course__play_round Z.d_Course__play_round
  b_Course__play_round : Binds K Z.d_Course__play_round p_Course__play_round []
  m_Course__play_round : Meth K Z.c_Course "_play_round" Z.f_Course__play_round
  F_Course__stocks_in : Fun K "_stocks_in" "Course._stocks_in" s_Course__stocks_in Z.f_Course__stocks_in Z.d_Course__stocks_in
  b_Course__stocks_in : Binds K Z.d_Course__stocks_in p_Course__stocks_in []
  m_Course__stocks_in : Meth K Z.c_Course "_stocks_in" Z.f_Course__stocks_in
  F_Course__misses_in : Fun K "_misses_in" "Course._misses_in" s_Course__misses_in Z.f_Course__misses_in Z.d_Course__misses_in
  b_Course__misses_in : Binds K Z.d_Course__misses_in p_Course__misses_in []
  m_Course__misses_in : Meth K Z.c_Course "_misses_in" Z.f_Course__misses_in
  F_Course__count_growing : Fun K "_count_growing" "Course._count_growing" s_Course__count_growing Z.f_Course__count_growing Z.d_Course__count_growing
  b_Course__count_growing : Binds K Z.d_Course__count_growing p_Course__count_growing []
  m_Course__count_growing : Meth K Z.c_Course "_count_growing" Z.f_Course__count_growing
  F_check_number : Fun K "check_number" "check_number" s_check_number Z.f_check_number Z.d_check_number
  b_check_number : Binds K Z.d_check_number p_check_number []
  g_check_number : mg "check_number" = some (.ref Z.f_check_number)
  F_check_amounts : Fun K "check_amounts" "check_amounts" s_check_amounts Z.f_check_amounts Z.d_check_amounts
  b_check_amounts : Binds K Z.d_check_amounts p_check_amounts []
  g_check_amounts : mg "check_amounts" = some (.ref Z.f_check_amounts)
  F_check_life : Fun K "check_life" "check_life" s_check_life Z.f_check_life Z.d_check_life
  b_check_life : Binds K Z.d_check_life p_check_life []
  g_check_life : mg "check_life" = some (.ref Z.f_check_life)
  F_check_bakery : Fun K "check_bakery" "check_bakery" s_check_bakery Z.f_check_bakery Z.d_check_bakery
  b_check_bakery : Binds K Z.d_check_bakery p_check_bakery []
  g_check_bakery : mg "check_bakery" = some (.ref Z.f_check_bakery)
  F_Bakery___init__ : Fun K "__init__" "Bakery.__init__" s_Bakery___init__ Z.f_Bakery___init__ Z.d_Bakery___init__
  b_Bakery___init__ : Binds K Z.d_Bakery___init__ p_Bakery___init__ []
  F_Bakery_bakes : Fun K "bakes" "Bakery.bakes" s_Bakery_bakes Z.f_Bakery_bakes Z.d_Bakery_bakes
  b_Bakery_bakes : Binds K Z.d_Bakery_bakes p_Bakery_bakes []
  pp_Bakery_bakes : PropOf K Z.c_Bakery "bakes" Z.pr_Bakery_bakes Z.f_Bakery_bakes
  F_Bakery_long_run : Fun K "long_run" "Bakery.long_run" s_Bakery_long_run Z.f_Bakery_long_run Z.d_Bakery_long_run
  b_Bakery_long_run : Binds K Z.d_Bakery_long_run p_Bakery_long_run []
  pp_Bakery_long_run : PropOf K Z.c_Bakery "long_run" Z.pr_Bakery_long_run Z.f_Bakery_long_run
  F_Bakery_baking_more : Fun K "baking_more" "Bakery.baking_more" s_Bakery_baking_more Z.f_Bakery_baking_more Z.d_Bakery_baking_more
  b_Bakery_baking_more : Binds K Z.d_Bakery_baking_more p_Bakery_baking_more []
  m_Bakery_baking_more : Meth K Z.c_Bakery "baking_more" Z.f_Bakery_baking_more
  F_check_price : Fun K "check_price" "check_price" s_check_price Z.f_check_price Z.d_check_price
  b_check_price : Binds K Z.d_check_price p_check_price []
  g_check_price : mg "check_price" = some (.ref Z.f_check_price)
  F_Prices___init__ : Fun K "__init__" "Prices.__init__" s_Prices___init__ Z.f_Prices___init__ Z.d_Prices___init__
  b_Prices___init__ : Binds K Z.d_Prices___init__ p_Prices___init__ []
  F_Prices_cents : Fun K "cents" "Prices.cents" s_Prices_cents Z.f_Prices_cents Z.d_Prices_cents
  b_Prices_cents : Binds K Z.d_Prices_cents p_Prices_cents []
  pp_Prices_cents : PropOf K Z.c_Prices "cents" Z.pr_Prices_cents Z.f_Prices_cents
  F_Prices___call__ : Fun K "__call__" "Prices.__call__" s_Prices___call__ Z.f_Prices___call__ Z.d_Prices___call__
  b_Prices___call__ : Binds K Z.d_Prices___call__ p_Prices___call__ []
  m_Prices___call__ : Meth K Z.c_Prices "__call__" Z.f_Prices___call__
  F_round_profit : Fun K "round_profit" "round_profit" s_round_profit Z.f_round_profit Z.d_round_profit
  b_round_profit : Binds K Z.d_round_profit p_round_profit []
  g_round_profit : mg "round_profit" = some (.ref Z.f_round_profit)
  F_best_more : Fun K "best_more" "best_more" s_best_more Z.f_best_more Z.d_best_more
  b_best_more : Binds K Z.d_best_more p_best_more []
  g_best_more : mg "best_more" = some (.ref Z.f_best_more)
  F__law_start : Fun K "_law_start" "_law_start" s__law_start Z.f__law_start Z.d__law_start
  b__law_start : Binds K Z.d__law_start p__law_start []
  g__law_start : mg "_law_start" = some (.ref Z.f__law_start)
  F__law_drawn : Fun K "_law_drawn" "_law_drawn" s__law_drawn Z.f__law_drawn Z.d__law_drawn
  b__law_drawn : Binds K Z.d__law_drawn p__law_drawn []
  g__law_drawn : mg "_law_drawn" = some (.ref Z.f__law_drawn)
  F__law_amounts : Fun K "_law_amounts" "_law_amounts" s__law_amounts Z.f__law_amounts Z.d__law_amounts
  b__law_amounts : Binds K Z.d__law_amounts p__law_amounts []
  g__law_amounts : mg "_law_amounts" = some (.ref Z.f__law_amounts)
  F_law : Fun K "law" "law" s_law Z.f_law Z.d_law
  b_law : Binds K Z.d_law p_law []
  g_law : mg "law" = some (.ref Z.f_law)
end Sw
namespace Sw
open PySem PySem.Spec PyProof.Rows L2 Evl
/-! ### the mirror: what the package computes -/
def keepAt (bs : List Int) (life : Int) (i : Nat) : Int := ((List.range (life - 1).toNat).map fun (age : Nat) => bs.getD ((((i : Int) - (age : Int)) % (bs.length : Int)).toNat) 0).sum
def keepL (bs : List Int) (life : Int) : List Int := (List.range bs.length).map (keepAt bs life)
def sumRep (am : List Int) (days : Int) : Int := days / (am.length : Int) * am.sum + (am.take (days % (am.length : Int)).toNat).sum
def stp (s b d k : Int) : Int := min (max 0 (s + b - d)) k
def stkAt (bs ds ks : List Int) (s : Int) : Nat → Int
  | 0 => s
  | i + 1 => stp (stkAt bs ds ks s i) (bs.getD i 0) (ds.getD i 0) (ks.getD i 0)
def stkL (bs ds ks : List Int) (s : Int) : List Int := (List.range (bs.length + 1)).map (stkAt bs ds ks s)
/-! ### an instance's fields, for the walk -/
/-- the instance at a has the field, and its class lets it be read -/
structure FlK (K : PySem.W.Frag) (H : Hp) (a C : Addr) (f : Str) (v : V) : Prop where
  fl : Fl H a C f v
  cl : Cls K C
  na : NoAttr K C f
section
variable {K : PySem.W.Frag} {σ : L2.St} {H H' : Hp} {ta tb te tx : TE} {x y z v : V} {a C dx : Addr} {fs : List (Str × V)} {f m : Str}
theorem FlK.mono (e : Ex H H') (h : FlK K H a C f v) : FlK K H' a C f v := ⟨h.fl.mono e, h.cl, h.na⟩
theorem ev_fldK (h : Ev ta σ H (.ref a)) (hf : FlK K H a C f v) : Ev (tFld K ta f) σ H v := ev_fld h hf.fl hf.cl hf.na
theorem atI_mapI {ns : List Int} {i : Int} (h0 : 0 ≤ i) (h1 : i < ns.length) : atI (ns.map V.int) i = some (.int (ns.getD i.toNat 0)) := by
  rw [atI_at (d := V.int 0) h0 (by rw [List.length_map]; exact h1)]
  simp [List.getD]
theorem rng_map {n : Nat} (f : Nat → Int) : (List.range n).map (fun i => V.int (f i)) = ((List.range n).map f).map V.int := by
  rw [List.map_map]; rfl
end
theorem wide_ok {i j : Int} (h : j.natAbs < 2 ^ 60) : CMul i j := .inr (by omega)
local macro_rules | `(tactic| walk_at "ev") => `(tactic| first
  | exact ev_c
  | exact ev_var rfl
  | ((with_reducible show Ev (tCB rMax2 _) _ _ _); exact ev_maxi (by walk_at "ev") (by walk_at "ev"))
  | ((with_reducible show Ev (tCB rMn _) _ _ _); exact ev_min2 (by walk_at "ev") (by walk_at "ev"))
  | ((with_reducible show Ev (tUn _ _) _ _ _); exact ev_un (by walk_at "ev") ru_neg)
  | ((with_reducible show Ev (tFld _ _ _) _ _ _); exact ev_fldK (by walk_at "ev") (by assumption))
  | ((with_reducible show Ev (tOp (rI0 _) _ _) _ _ _); exact ev_op (by walk_at "ev") (by walk_at "ev") rv_I0)
  | ((with_reducible show Ev (tOp rEq _ _) _ _ _); exact ev_op (by walk_at "ev") (by walk_at "ev") (rv_eq rfl))
  | ((with_reducible show Ev (tOp rNe _ _) _ _ _); exact ev_op (by walk_at "ev") (by walk_at "ev") (rv_ne rfl)))

variable {P : Program} {w : World} {K : PySem.W.Frag} {mg : Str → Option Value} {base : Heap} {Z : Ad}
def sp_count_keepable (K : PySem.W.Frag) : Sp := fun vs H Q _ => ∃ (a : Addr) (bs : List Int) (life : Int), vs = [.ref a, .int life] ∧ SqT K H a (bs.map V.int) ∧ 0 < bs.length ∧ bs.length ≤ 24 ∧ 1 ≤ life ∧ life ≤ 30 ∧
  RetL ((keepL bs life).map V.int) H Q
theorem ok_count_keepable (T : Txt K mg Z) : FnOk P w K mg base CX0 1 Z.f_count_keepable Z.d_count_keepable p_count_keepable (sp_count_keepable K) := by
  refine T.F_count_keepable.ok sc_count_keepable (fun vs H Q E h => ?_) (fun cdv Ar outer s H vs Q E hr h => ?_)
  · obtain ⟨a, bs, life, rfl, _⟩ := h
    rfl
  · obtain ⟨a, bs, life, rfl, hS, h0, h1, h2, h3, k⟩ := h
    refine ⟨_, (pss_cons (ps_set (i := 2) sc_count_keepable.nd rfl (Or.inr rfl) (pe_callB (r := rLenS K) (call_len_seq) (by rfl) T.b_len boot_len (pa_cons (pv 0) pa_nil)))
      (pss_one (ps_ret (pe_lc (own := [("at", 3)]) rfl sc_count_keepable.nd (pi_range1 (by rfl) T.b_range (pa_cons (pv 2) pa_nil)) (blkOk_by (own := [("at", 3)]) (N := n_count_keepable) (sc := defScope s_count_keepable) (scope := { kind := PySem.ScopeKind.function, names := [ (PySem.Str.ofString ".0", PySem.NameKind.local), (PySem.Str.ofString "at", PySem.NameKind.cell), (PySem.Str.ofString "sum", PySem.NameKind.globalImplicit), (PySem.Str.ofString "range", PySem.NameKind.globalImplicit), (PySem.Str.ofString "bakes", PySem.NameKind.free), (PySem.Str.ofString "length", PySem.NameKind.free), (PySem.Str.ofString "life", PySem.NameKind.free)], isGenerator := false, isCoroutine := false, more := [] : PySem.Scope }) (by decide +kernel)) (fun _ _ _ _ _ => (pg_name (i := 3) sc_count_keepable.nd rfl (Or.inr rfl))) (fun _ _ _ _ _ => pts_nil) (fun _ _ _ _ _ => (pe_callB (r := rSum K) (cr_sum rfl) (by rfl) T.b_sum boot_sum (pa_cons (pe_lc (own := [("age", 4)]) rfl sc_count_keepable.nd (pi_range1 (by rfl) T.b_range (pa_cons (pe_op op_sub (pv 1) pe_int) pa_nil)) (blkOk_by (own := [("age", 4)]) (N := n_count_keepable) (sc := { kind := PySem.ScopeKind.function, names := [ (PySem.Str.ofString ".0", PySem.NameKind.local), (PySem.Str.ofString "at", PySem.NameKind.cell), (PySem.Str.ofString "sum", PySem.NameKind.globalImplicit), (PySem.Str.ofString "range", PySem.NameKind.globalImplicit), (PySem.Str.ofString "bakes", PySem.NameKind.cell), (PySem.Str.ofString "length", PySem.NameKind.cell), (PySem.Str.ofString "life", PySem.NameKind.cell)], isGenerator := false, isCoroutine := false, more := [] : PySem.Scope }) (scope := { kind := PySem.ScopeKind.function, names := [ (PySem.Str.ofString ".0", PySem.NameKind.local), (PySem.Str.ofString "age", PySem.NameKind.local), (PySem.Str.ofString "at", PySem.NameKind.free), (PySem.Str.ofString "bakes", PySem.NameKind.free), (PySem.Str.ofString "length", PySem.NameKind.free)], isGenerator := false, isCoroutine := false, more := [] : PySem.Scope }) (by decide +kernel)) (fun _ _ _ _ _ => (pg_name (i := 4) sc_count_keepable.nd rfl (Or.inl rfl))) (fun _ _ _ _ _ => pts_nil) (fun _ _ _ _ _ => (pe_ix (r := rIxT K) ix_tup (pv 0) (pe_op op_mod (pe_op op_sub (pv 3) (pv 4)) (pv 2)) (fun _ _ => rfl)))) pa_nil))))))), ?_⟩
    refine q_asg (ev_lenT (ev_var rfl) hS) fun H1 e1 => ?_
    have hS1 := ex_t e1 hS
    have hl : ((bs.map V.int).length : Int) = (bs.length : Int) := by rw [List.length_map]
    rw [hl]
    refine s_retL (xs := (keepL bs life).map V.int) ?_ fun p H2 hp e2 h2 => k p H2 (fresh_back e1 hp) (e1.trans e2) h2
    unfold keepL
    rw [← rng_map]
    refine el_lcR (n := (bs.length : Int)) (fun i => V.int (keepAt bs life i)) (ea_cons (ev_var rfl) ea_nil) ⟨by omega, by omega⟩ (fun _ => rfl) fun i H3 e3 hi => ?_
    unfold keepAt
    refine ev_sumN ?_
    rw [← rng_map]
    refine el_lcR (n := life - 1) _ (ea_cons (by walk_at "ev") ea_nil) ⟨by omega, by omega⟩ (fun _ => rfl) fun j H4 e4 hj => ?_
    have hm0 : 0 ≤ ((i : Int) - (j : Int)) % (bs.length : Int) := Int.emod_nonneg _ (by omega)
    have hm1 : ((i : Int) - (j : Int)) % (bs.length : Int) < (bs.length : Int) := Int.emod_lt_of_pos _ (by omega)
    exact ev_ixT (ev_var rfl) (ex_t (e3.trans e4) hS1) (ev_op (by walk_at "ev") (by walk_at "ev") (rv_I (by show (0 : Int) < _; omega))) (atI_mapI hm0 hm1)
def sp_sum_repeated (K : PySem.W.Frag) : Sp := fun vs H Q _ => ∃ (a : Addr) (am : List Int) (days : Int), vs = [.ref a, .int days] ∧ (SqT K H a (am.map V.int) ∨ SqL K H a (am.map V.int)) ∧ 0 < am.length ∧ am.length ≤ 24 ∧ am.sum.natAbs ≤ 2 ^ 40 ∧
  RetV (.int (sumRep am days)) H Q
end Sw
namespace Sw
open PySem PySem.Spec PyProof.Rows L2 Evl
local macro_rules | `(tactic| walk_at "ev") => `(tactic| first
  | exact ev_c
  | exact ev_var rfl
  | ((with_reducible show Ev (tCB rMax2 _) _ _ _); exact ev_maxi (by walk_at "ev") (by walk_at "ev"))
  | ((with_reducible show Ev (tCB rMn _) _ _ _); exact ev_min2 (by walk_at "ev") (by walk_at "ev"))
  | ((with_reducible show Ev (tUn _ _) _ _ _); exact ev_un (by walk_at "ev") ru_neg)
  | ((with_reducible show Ev (tFld _ _ _) _ _ _); exact ev_fldK (by walk_at "ev") (by assumption))
  | ((with_reducible show Ev (tOp (rI0 _) _ _) _ _ _); exact ev_op (by walk_at "ev") (by walk_at "ev") rv_I0)
  | ((with_reducible show Ev (tOp rEq _ _) _ _ _); exact ev_op (by walk_at "ev") (by walk_at "ev") (rv_eq rfl))
  | ((with_reducible show Ev (tOp rNe _ _) _ _ _); exact ev_op (by walk_at "ev") (by walk_at "ev") (rv_ne rfl)))

/-! ### the course: what its object holds -/
def start1 (gain first full : Int) (r : Int) : Int := if r = 0 then 0 else min full (first + (r - 1) * gain)
def missL (ds bs st : List Int) : List Int := (List.range ds.length).map fun i => max 0 (ds.getD i 0 - st.getD i 0 - bs.getD i 0)
def growing (gain first full : Int) : Int := if gain = 0 then 0 else -((first - full) / gain)
/-- bounds of what a bakery is made of -/
structure Good (bs ds : List Int) : Prop where
  n0 : 0 < bs.length
  n1 : bs.length ≤ 24
  ld : ds.length = bs.length
  b0 : ∀ x ∈ bs, 0 ≤ x ∧ x ≤ 1000000000
  d0 : ∀ x ∈ ds, 0 ≤ x ∧ x ≤ 1000000000
structure PR (K : PySem.W.Frag) (Z : Ad) (H : Hp) (c : Addr) (bs ds ks : List Int) (tb td tk : Addr) : Prop where
  fb : FlK K H c Z.c_Course "_bakes" (.ref tb)
  hb : SqT K H tb (bs.map V.int)
  fd : FlK K H c Z.c_Course "_demands" (.ref td)
  hd : SqT K H td (ds.map V.int)
  fk : FlK K H c Z.c_Course "_keepable" (.ref tk)
  hk : SqL K H tk (ks.map V.int)
  nf : NoF H c Z.c_Course "_play_round"
  gd : Good bs ds
  kl : ks.length = bs.length
structure SR (K : PySem.W.Frag) (Z : Ad) (H : Hp) (c : Addr) (bs ds ks : List Int) (tb td tk : Addr) (gain first full : Int) : Prop where
  pr : PR K Z H c bs ds ks tb td tk
  fg : FlK K H c Z.c_Course "_gain" (.int gain)
  ff : FlK K H c Z.c_Course "_first_end" (.int first)
  fu : FlK K H c Z.c_Course "_full_end" (.int full)
  nf : NoF H c Z.c_Course "_stocks_in"
  gb : gain.natAbs < 2 ^ 60
theorem PR.mono {K : PySem.W.Frag} {Z : Ad} {H H' : Hp} {c : Addr} {bs ds ks : List Int} {tb td tk : Addr} (e : Ex H H') (h : PR K Z H c bs ds ks tb td tk) : PR K Z H' c bs ds ks tb td tk :=
  ⟨h.fb.mono e, ex_t e h.hb, h.fd.mono e, ex_t e h.hd, h.fk.mono e, ex_l e h.hk, h.nf.mono e, h.gd, h.kl⟩
theorem SR.mono {K : PySem.W.Frag} {Z : Ad} {H H' : Hp} {c : Addr} {bs ds ks : List Int} {tb td tk : Addr} {gain first full : Int} (e : Ex H H') (h : SR K Z H c bs ds ks tb td tk gain first full) : SR K Z H' c bs ds ks tb td tk gain first full :=
  ⟨h.pr.mono e, h.fg.mono e, h.ff.mono e, h.fu.mono e, h.nf.mono e, h.gb⟩
theorem stkL_get {bs ds ks : List Int} {s : Int} {i : Nat} (h : i ≤ bs.length) : (stkL bs ds ks s).getD i 0 = stkAt bs ds ks s i := by
  unfold stkL
  simp [List.getD, List.getElem?_map, List.getElem?_range (show i < bs.length + 1 by omega)]
theorem stkL_len {bs ds ks : List Int} {s : Int} : (stkL bs ds ks s).length = bs.length + 1 := by simp [stkL]
theorem atI_last {α : Type} {xs : List α} {x : α} : atI (xs ++ [x]) (-1) = some x := by
  have e : ixN (xs ++ [x]).length (-1) = some xs.length := by
    unfold ixN
    rw [List.length_append, List.length_singleton]
    rw [if_neg (by omega), if_pos (by omega)]
    congr 1
    omega
  unfold atI
  rw [e]
  simp
theorem at_map {ns : List Int} {i : Nat} {x : V} (h : (ns.map V.int)[i]? = some x) : x = .int (ns.getD i 0) ∧ i < ns.length := by
  rw [List.getElem?_map] at h
  cases e : ns[i]? with
  | none => rw [e] at h; cases h
  | some z =>
    rw [e] at h
    have hi := (List.getElem?_eq_some_iff.mp e).1
    refine ⟨?_, hi⟩
    simp [List.getD, e] at h ⊢
    exact h.symm
variable {P : Program} {w : World} {K : PySem.W.Frag} {mg : Str → Option Value} {base : Heap} {Z : Ad}
/-! ### _play_round -/
def sp_play (K : PySem.W.Frag) (Z : Ad) : Sp := fun vs H Q _ => ∃ (c : Addr) (bs ds ks : List Int) (tb td tk : Addr) (s : Int), vs = [.ref c, .int s] ∧ PR K Z H c bs ds ks tb td tk ∧ RetL ((stkL bs ds ks s).map V.int) H Q
theorem ok_Course__play_round (T : Txt K mg Z) : FnOk P w K mg base CX0 1 Z.f_Course__play_round Z.d_Course__play_round p_Course__play_round (sp_play K Z) := by
  refine T.F_Course__play_round.ok sc_Course__play_round (fun vs H Q E h => ?_) (fun cdv Ar outer s H vs Q E hr h => ?_)
  · obtain ⟨c, bs, ds, ks, tb, td, tk, s, rfl, _⟩ := h
    rfl
  · obtain ⟨c, bs, ds, ks, tb, td, tk, s, rfl, hP, k⟩ := h
    have fb := hP.fb
    have fd := hP.fd
    have fk := hP.fk
    have hn := hP.gd.n1
    refine ⟨_, (pss_cons (ps_set (i := 2) sc_Course__play_round.nd rfl (Or.inl rfl) (pe_lst (pa_cons (pv 1) pa_nil)))
      (pss_cons (ps_for PassesOwn.never rfl (pi_zip3 (by rfl) T.b_zip (pa_cons (pe_fldK K rfl (pv 0) rfl) (pa_cons (pe_fldK K rfl (pv 0) rfl) (pa_cons (pe_fldK K rfl (pv 0) rfl) pa_nil)))) (by exact (pg_tupK K (n := 3) rfl rfl (pgs_cons (pg_name (i := 3) sc_Course__play_round.nd rfl (Or.inl rfl)) (pgs_cons (pg_name (i := 4) sc_Course__play_round.nd rfl (Or.inl rfl)) (pgs_cons (pg_name (i := 5) sc_Course__play_round.nd rfl (Or.inl rfl)) pgs_nil))))) (pss_cons (ps_set (i := 6) sc_Course__play_round.nd rfl (Or.inl rfl) (pe_callB (r := rMax2) (call_max2 rfl) (by rfl) T.b_max boot_max (pa_cons pe_int (pa_cons (pe_op op_sub (pe_op op_add (pe_ix (r := rIxL K) ix_list (pv 2) (pe_un un_neg pe_int) (fun _ _ => rfl)) (pv 3)) (pv 4)) pa_nil))))
      (pss_one (ps_expr (pe_bm PySem.F.plainAttrs_list PySem.F.slot_list_append PySem.F.type_list_append mt_append (pv 2) (pa_cons (pe_callB (r := rMn) (call_min2 rfl) (by rfl) T.b_min boot_min (pa_cons (pv 6) (pa_cons (pv 5) pa_nil))) pa_nil))))))
      (pss_one (ps_ret (pv 2))))), ?_⟩
    refine q_asgL (xs := [.int s]) (el_lst (ea_cons (ev_var rfl) ea_nil) (by show 1 ≤ 100000; decide)) fun p H1 hp e1 h1 => ?_
    refine q_forZ3 (n := bs.length) (G := H) (ea_cons (Ev.mono e1 (by walk_at "ev")) (ea_cons (Ev.mono e1 (by walk_at "ev")) (ea_cons (Ev.mono e1 (by walk_at "ev")) ea_nil))) e1 hP.hb hP.hd hP.hk (by simp) (by simp [hP.gd.ld]) (by simp [hP.kl])
      (fun i σ' H' => (∃ a b c' d, σ' = [some (.ref c), some (.int s), some (.ref p), a, b, c', d]) ∧ Ex H H' ∧ H' p = some (.lst (((List.range (i + 1)).map (stkAt bs ds ks s)).map V.int))) ?_ ?_ ?_ ?_
    · intro H2 e2
      exact ⟨⟨_, _, _, _, rfl⟩, e1.trans e2, e2 p _ h1⟩
    · intro i σ' H' _ p
      exact p.2.1
    · rintro i x y z σ' H' hx hy hz ⟨⟨_, _, _, _, rfl⟩, e2, h2⟩ H3 e3
      obtain ⟨rfl, hi⟩ := at_map hx
      obtain ⟨rfl, _⟩ := at_map hy
      obtain ⟨rfl, _⟩ := at_map hz
      have h3 := e3 p _ h2
      have hlast : ((List.range (i + 1)).map (stkAt bs ds ks s)).map V.int = ((List.range i).map (stkAt bs ds ks s)).map V.int ++ [V.int (stkAt bs ds ks s i)] := by
        rw [List.range_succ, List.map_append, List.map_append]; rfl
      refine q_asg (ev_maxi ev_c (ev_op (ev_op (ev_ixL (v := .int (stkAt bs ds ks s i)) (ev_var rfl) (sq_of h3) (by walk_at "ev") (by rw [hlast]; exact atI_last)) (ev_var rfl) rv_I0) (ev_var rfl) rv_I0)) fun H4 e4 => ?_
      refine s_app (e4 p _ h3) (ev_var rfl) (by walk_at "ev") (by simp; omega) fun H5 e5 => ?_
      refine ⟨⟨_, _, _, _, rfl⟩, Ex.mut (((e2.trans e3).trans e4).trans e5) hp, ?_⟩
      rw [upd_same, List.range_succ (n := i + 1), List.map_append, List.map_append]
      rfl
    · rintro σ' H' ⟨⟨_, _, _, _, rfl⟩, e2, h2⟩
      exact s_ret (ev_var rfl) fun H3 e3 => k p H3 hp (e2.trans e3) (e3 p _ h2)
end Sw
namespace Sw
open PySem PySem.Spec PyProof.Rows L2 Evl
local macro_rules | `(tactic| walk_at "ev") => `(tactic| first
  | exact ev_c
  | exact ev_var rfl
  | ((with_reducible show Ev (tCB rMax2 _) _ _ _); exact ev_maxi (by walk_at "ev") (by walk_at "ev"))
  | ((with_reducible show Ev (tCB rMn _) _ _ _); exact ev_min2 (by walk_at "ev") (by walk_at "ev"))
  | ((with_reducible show Ev (tUn _ _) _ _ _); exact ev_un (by walk_at "ev") ru_neg)
  | ((with_reducible show Ev (tFld _ _ _) _ _ _); exact ev_fldK (by walk_at "ev") (by assumption))
  | ((with_reducible show Ev (tOp (rI0 _) _ _) _ _ _); exact ev_op (by walk_at "ev") (by walk_at "ev") rv_I0)
  | ((with_reducible show Ev (tOp rEq _ _) _ _ _); exact ev_op (by walk_at "ev") (by walk_at "ev") (rv_eq rfl))
  | ((with_reducible show Ev (tOp rNe _ _) _ _ _); exact ev_op (by walk_at "ev") (by walk_at "ev") (rv_ne rfl)))

/-- a promise's uses -/
theorem spl_play {K : PySem.W.Frag} {Z : Ad} {H : Hp} {c : Addr} {bs ds ks : List Int} {tb td tk : Addr} {s : Int} (h : PR K Z H c bs ds ks tb td tk) : SpL (sp_play K Z) [.ref c, .int s] H ((stkL bs ds ks s).map V.int) :=
  fun _ e _ q _ => ⟨c, bs, ds, ks, tb, td, tk, s, rfl, h.mono e, q⟩
def sp_stocks (K : PySem.W.Frag) (Z : Ad) : Sp := fun vs H Q _ => ∃ (c : Addr) (bs ds ks : List Int) (tb td tk : Addr) (gain first full r : Int), vs = [.ref c, .int r] ∧ SR K Z H c bs ds ks tb td tk gain first full ∧ RetL ((stkL bs ds ks (start1 gain first full r)).map V.int) H Q
theorem spl_stocks {K : PySem.W.Frag} {Z : Ad} {H : Hp} {c : Addr} {bs ds ks : List Int} {tb td tk : Addr} {gain first full r : Int} (h : SR K Z H c bs ds ks tb td tk gain first full) :
    SpL (sp_stocks K Z) [.ref c, .int r] H ((stkL bs ds ks (start1 gain first full r)).map V.int) :=
  fun _ e _ q _ => ⟨c, bs, ds, ks, tb, td, tk, gain, first, full, r, rfl, h.mono e, q⟩
variable {P : Program} {w : World} {K : PySem.W.Frag} {mg : Str → Option Value} {base : Heap} {Z : Ad}
theorem ok_Course__stocks_in (T : Txt K mg Z) : FnOk P w K mg base CX0 2 Z.f_Course__stocks_in Z.d_Course__stocks_in p_Course__stocks_in (sp_stocks K Z) := by
  refine T.F_Course__stocks_in.ok sc_Course__stocks_in (fun vs H Q E h => ?_) (fun cdv Ar outer s H vs Q E hr h => ?_)
  · obtain ⟨c, bs, ds, ks, tb, td, tk, gain, first, full, r, rfl, _⟩ := h
    rfl
  · obtain ⟨c, bs, ds, ks, tb, td, tk, gain, first, full, r, rfl, hS, k⟩ := h
    have hP := hS.pr
    refine ⟨_, (pss_cons (ps_if (pt_cmpR op_eq (pv 1) pe_int (nomark _)) (pss_one (ps_ret (pe_meth (pv 0) T.cl_Course T.m_Course__play_round (ok_Course__play_round T) (hr.mono (by decide)) T.b_Course__play_round .nil pass0 (pa_cons pe_int pa_nil)))) pss_nil)
      (pss_cons (ps_set (i := 2) sc_Course__stocks_in.nd rfl (Or.inl rfl) (pe_callB (r := rMn) (call_min2 rfl) (by rfl) T.b_min boot_min (pa_cons (pe_fldK K rfl (pv 0) rfl) (pa_cons (pe_op op_add (pe_fldK K rfl (pv 0) rfl) (pe_op op_mul (pe_op op_sub (pv 1) pe_int) (pe_fldK K rfl (pv 0) rfl))) pa_nil))))
      (pss_one (ps_ret (pe_meth (pv 0) T.cl_Course T.m_Course__play_round (ok_Course__play_round T) (hr.mono (by decide)) T.b_Course__play_round .nil pass0 (pa_cons (pv 2) pa_nil)))))), ?_⟩
    refine q_when (et_test (by walk_at "ev")) (fun hb H1 e1 => ?_) (fun hb H1 e1 => ?_)
    · have hr0 : r = 0 := by simpa using hb
      refine s_retL (el_meth (ev_var rfl) (hP.nf.mono e1) (ea_cons ev_c ea_nil) (spl_play (s := 0) (hP.mono e1))) fun p H2 hp e2 h2 => ?_
      refine k p H2 (fresh_back e1 hp) (e1.trans e2) ?_
      rw [h2]
      unfold start1
      rw [if_pos hr0]
    · have hr0 : ¬ r = 0 := by simpa using hb
      have fg := hS.fg.mono e1
      have ff := hS.ff.mono e1
      have fu := hS.fu.mono e1
      refine q_asg (ev_min2 (by walk_at "ev") (ev_op (by walk_at "ev") (ev_op (by walk_at "ev") (by walk_at "ev") (rv_I (wide_ok hS.gb))) rv_I0)) fun H2 e2 => ?_
      refine s_retL (el_meth (ev_var rfl) (hP.nf.mono (e1.trans e2)) (ea_cons (ev_var rfl) ea_nil) (spl_play (hP.mono (e1.trans e2)))) fun p H3 hp e3 h3 => ?_
      refine k p H3 (fresh_back (e1.trans e2) hp) ((e1.trans e2).trans e3) ?_
      rw [h3]
      unfold start1
      rw [if_neg hr0]
/-- what a course tells -/
def stockI (bs ds ks : List Int) (gain first full day : Int) : Int := stkAt bs ds ks (start1 gain first full (day / (bs.length : Int))) (day % (bs.length : Int)).toNat
structure SM (K : PySem.W.Frag) (Z : Ad) (H : Hp) (c : Addr) (bs ds ks : List Int) (tb td tk : Addr) (gain first full : Int) : Prop where
  sr : SR K Z H c bs ds ks tb td tk gain first full
  nm : NoF H c Z.c_Course "_misses_in"
theorem SM.mono {K : PySem.W.Frag} {Z : Ad} {H H' : Hp} {c : Addr} {bs ds ks : List Int} {tb td tk : Addr} {gain first full : Int} (e : Ex H H') (h : SM K Z H c bs ds ks tb td tk gain first full) : SM K Z H' c bs ds ks tb td tk gain first full := ⟨h.sr.mono e, h.nm.mono e⟩
def sp_misses (K : PySem.W.Frag) (Z : Ad) : Sp := fun vs H Q _ => ∃ (c : Addr) (bs ds ks : List Int) (tb td tk : Addr) (gain first full r : Int), vs = [.ref c, .int r] ∧ SR K Z H c bs ds ks tb td tk gain first full ∧ RetL ((missL ds bs (stkL bs ds ks (start1 gain first full r))).map V.int) H Q
theorem spl_misses {K : PySem.W.Frag} {Z : Ad} {H : Hp} {c : Addr} {bs ds ks : List Int} {tb td tk : Addr} {gain first full r : Int} (h : SR K Z H c bs ds ks tb td tk gain first full) :
    SpL (sp_misses K Z) [.ref c, .int r] H ((missL ds bs (stkL bs ds ks (start1 gain first full r))).map V.int) :=
  fun _ e _ q _ => ⟨c, bs, ds, ks, tb, td, tk, gain, first, full, r, rfl, h.mono e, q⟩
theorem ok_Course__misses_in (T : Txt K mg Z) : FnOk P w K mg base CX0 3 Z.f_Course__misses_in Z.d_Course__misses_in p_Course__misses_in (sp_misses K Z) := by
  refine T.F_Course__misses_in.ok sc_Course__misses_in (fun vs H Q E h => ?_) (fun cdv Ar outer s H vs Q E hr h => ?_)
  · obtain ⟨c, bs, ds, ks, tb, td, tk, gain, first, full, r, rfl, _⟩ := h
    rfl
  · obtain ⟨c, bs, ds, ks, tb, td, tk, gain, first, full, r, rfl, hS, k⟩ := h
    have hP := hS.pr
    have hn := hP.gd.n1
    have hl := hP.gd.ld
    refine ⟨_, (pss_cons (ps_set (i := 2) sc_Course__misses_in.nd rfl (Or.inr rfl) (pe_meth (pv 0) T.cl_Course T.m_Course__stocks_in (ok_Course__stocks_in T) (hr.mono (by decide)) T.b_Course__stocks_in .nil pass0 (pa_cons (pv 1) pa_nil)))
      (pss_one (ps_ret (pe_lc (own := [("at", 3), ("demand", 4)]) rfl sc_Course__misses_in.nd (pi_enumTK K rfl (by rfl) T.b_enumerate (pa_cons (pe_fldK K rfl (pv 0) rfl) pa_nil)) (blkOk_by (own := [("at", 3), ("demand", 4)]) (N := n_Course__misses_in) (sc := defScope s_Course__misses_in) (scope := { kind := PySem.ScopeKind.function, names := [ (PySem.Str.ofString ".0", PySem.NameKind.local), (PySem.Str.ofString "at", PySem.NameKind.local), (PySem.Str.ofString "demand", PySem.NameKind.local), (PySem.Str.ofString "max", PySem.NameKind.globalImplicit), (PySem.Str.ofString "self", PySem.NameKind.free), (PySem.Str.ofString "stocks", PySem.NameKind.free)], isGenerator := false, isCoroutine := false, more := [] : PySem.Scope }) (by decide +kernel)) (fun _ _ _ _ _ => (by exact (pg_tupK K (n := 2) rfl rfl (pgs_cons (pg_name (i := 3) sc_Course__misses_in.nd rfl (Or.inl rfl)) (pgs_cons (pg_name (i := 4) sc_Course__misses_in.nd rfl (Or.inl rfl)) pgs_nil))))) (fun _ _ _ _ _ => pts_nil) (fun _ _ _ _ _ => (pe_callB (r := rMax2) (call_max2 rfl) (by rfl) T.b_max boot_max (pa_cons pe_int (pa_cons (pe_op op_sub (pe_op op_sub (pv 4) (pe_ix (r := rIxL K) ix_list (pv 2) (pv 3) (fun _ _ => rfl))) (pe_ix (r := rIxT K) ix_tup (pe_fldK K rfl (pv 0) rfl) (pv 3) (fun _ _ => rfl))) pa_nil)))))))), ?_⟩
    refine q_asgL (el_meth (ev_var rfl) hS.nf (ea_cons (ev_var rfl) ea_nil) (spl_stocks hS)) fun p H1 hp e1 h1 => ?_
    have hP1 := hP.mono e1
    have fb := hP1.fb
    have fd := hP1.fd
    refine s_retL (xs := (missL ds bs (stkL bs ds ks (start1 gain first full r))).map V.int) ?_ fun q H2 hq e2 h2 => k q H2 (fresh_back e1 hq) (e1.trans e2) h2
    unfold missL
    rw [← rng_map]
    have hdl : (ds.map V.int).length = ds.length := by rw [List.length_map]
    rw [← hdl]
    refine el_lcEnT _ (ea_cons (by walk_at "ev") ea_nil) hP1.hd (by rw [hdl]; omega) (fun _ _ => rfl) fun i x H3 e3 hx => ?_
    obtain ⟨rfl, hi⟩ := at_map hx
    have fb3 := fb.mono e3
    refine ev_maxi ev_c (ev_op (ev_op (ev_var rfl) (ev_ixL (ev_var rfl) (sq_of (e3 p _ h1)) (ev_var rfl) (atI_mapI (i := (i : Int)) (by omega) (by rw [stkL_len]; omega))) rv_I0) (ev_ixT (by walk_at "ev") (ex_t e3 hP1.hb) (ev_var rfl) (atI_mapI (i := (i : Int)) (by omega) (by omega))) rv_I0)
def sp_growing (K : PySem.W.Frag) (Z : Ad) : Sp := fun vs H Q _ => ∃ (c : Addr) (bs ds ks : List Int) (tb td tk : Addr) (gain first full : Int), vs = [.ref c] ∧ SR K Z H c bs ds ks tb td tk gain first full ∧ 0 ≤ gain ∧ RetV (.int (growing gain first full)) H Q
theorem ok_Course__count_growing (T : Txt K mg Z) : FnOk P w K mg base CX0 1 Z.f_Course__count_growing Z.d_Course__count_growing p_Course__count_growing (sp_growing K Z) := by
  refine T.F_Course__count_growing.ok sc_Course__count_growing (fun vs H Q E h => ?_) (fun cdv Ar outer s H vs Q E hr h => ?_)
  · obtain ⟨c, bs, ds, ks, tb, td, tk, gain, first, full, rfl, _⟩ := h
    rfl
  · obtain ⟨c, bs, ds, ks, tb, td, tk, gain, first, full, rfl, hS, hg, k⟩ := h
    have fg := hS.fg
    refine ⟨_, (pss_cons (ps_if (pt_cmpR op_eq (pe_fldK K rfl (pv 0) rfl) pe_int (nomark _)) (pss_one (ps_ret pe_int)) pss_nil)
      (pss_one (ps_ret (pe_un un_neg (pe_op op_fdivW (pe_op op_sub (pe_fldK K rfl (pv 0) rfl) (pe_fldK K rfl (pv 0) rfl)) (pe_fldK K rfl (pv 0) rfl)))))), ?_⟩
    refine q_when (et_test (by walk_at "ev")) (fun hb H1 e1 => ?_) (fun hb H1 e1 => ?_)
    · have hr0 : gain = 0 := by simpa using hb
      refine s_ret ev_c fun H2 e2 => ?_
      have z := k H2 (e1.trans e2)
      unfold growing at z
      rw [if_pos hr0] at z
      exact z
    · have hr0 : ¬ gain = 0 := by simpa using hb
      have fg := hS.fg.mono e1
      have ff := hS.ff.mono e1
      have fu := hS.fu.mono e1
      refine s_ret (ev_un (ev_op (by walk_at "ev") (by walk_at "ev") (rv_I (wide_div (by omega) hS.gb (by decide) (by decide)))) ru_neg) fun H2 e2 => ?_
      have z := k H2 (e1.trans e2)
      unfold growing at z
      rw [if_neg hr0] at z
      exact z
def sp_stock_at (K : PySem.W.Frag) (Z : Ad) : Sp := fun vs H Q _ => ∃ (c : Addr) (bs ds ks : List Int) (tb td tk : Addr) (gain first full day : Int), vs = [.ref c, .int day] ∧ SR K Z H c bs ds ks tb td tk gain first full ∧ RetV (.int (stockI bs ds ks gain first full day)) H Q
theorem spv_stock_at {K : PySem.W.Frag} {Z : Ad} {H : Hp} {c : Addr} {bs ds ks : List Int} {tb td tk : Addr} {gain first full day : Int} (h : SR K Z H c bs ds ks tb td tk gain first full) :
    SpV (sp_stock_at K Z) [.ref c, .int day] H (.int (stockI bs ds ks gain first full day)) :=
  fun _ e _ q _ => ⟨c, bs, ds, ks, tb, td, tk, gain, first, full, day, rfl, h.mono e, q⟩
theorem getD_map {ns : List Int} {i : Nat} : (ns.map V.int).getD i (V.int 0) = V.int (ns.getD i 0) := by
  simp [List.getD]
/-- a day's sales: sold, missed, thrown -/
def soldI (bs ds ks : List Int) (gain first full day : Int) : Int := min (stockI bs ds ks gain first full day + bs.getD (day % (bs.length : Int)).toNat 0) (ds.getD (day % (bs.length : Int)).toNat 0)
def endI (bs ds ks : List Int) (gain first full day : Int) : Int := stkAt bs ds ks (start1 gain first full (day / (bs.length : Int))) ((day % (bs.length : Int)).toNat + 1)
def salesI (bs ds ks : List Int) (gain first full day : Int) : List Int :=
  [soldI bs ds ks gain first full day, ds.getD (day % (bs.length : Int)).toNat 0 - soldI bs ds ks gain first full day,
   stockI bs ds ks gain first full day + bs.getD (day % (bs.length : Int)).toNat 0 - soldI bs ds ks gain first full day - endI bs ds ks gain first full day]
def sp_sales_on (K : PySem.W.Frag) (Z : Ad) : Sp := fun vs H Q _ => ∃ (c : Addr) (bs ds ks : List Int) (tb td tk : Addr) (gain first full day : Int), vs = [.ref c, .int day] ∧ SR K Z H c bs ds ks tb td tk gain first full ∧ RetU ((salesI bs ds ks gain first full day).map V.int) H Q
theorem spu_sales_on {K : PySem.W.Frag} {Z : Ad} {H : Hp} {c : Addr} {bs ds ks : List Int} {tb td tk : Addr} {gain first full day : Int} (h : SR K Z H c bs ds ks tb td tk gain first full) :
    SpU (sp_sales_on K Z) [.ref c, .int day] H ((salesI bs ds ks gain first full day).map V.int) :=
  fun _ e _ q _ => ⟨c, bs, ds, ks, tb, td, tk, gain, first, full, day, rfl, h.mono e, q⟩
end Sw
namespace Sw
open PySem PySem.Spec PyProof.Rows L2 Evl
local macro_rules | `(tactic| walk_at "ev") => `(tactic| first
  | exact ev_c
  | exact ev_var rfl
  | ((with_reducible show Ev (tCB rMax2 _) _ _ _); exact ev_maxi (by walk_at "ev") (by walk_at "ev"))
  | ((with_reducible show Ev (tCB rMn _) _ _ _); exact ev_min2 (by walk_at "ev") (by walk_at "ev"))
  | ((with_reducible show Ev (tUn _ _) _ _ _); exact ev_un (by walk_at "ev") ru_neg)
  | ((with_reducible show Ev (tFld _ _ _) _ _ _); exact ev_fldK (by walk_at "ev") (by assumption))
  | ((with_reducible show Ev (tOp (rI0 _) _ _) _ _ _); exact ev_op (by walk_at "ev") (by walk_at "ev") rv_I0)
  | ((with_reducible show Ev (tOp rEq _ _) _ _ _); exact ev_op (by walk_at "ev") (by walk_at "ev") (rv_eq rfl))
  | ((with_reducible show Ev (tOp rNe _ _) _ _ _); exact ev_op (by walk_at "ev") (by walk_at "ev") (rv_ne rfl)))

/-! ### find_settled, sum_settled_round, sales_before -/
structure FS (K : PySem.W.Frag) (Z : Ad) (H : Hp) (c : Addr) (bs ds ks : List Int) (tb td tk : Addr) (gain first full : Int) : Prop where
  sr : SR K Z H c bs ds ks tb td tk gain first full
  ng : NoF H c Z.c_Course "_count_growing"
theorem FS.mono {K : PySem.W.Frag} {Z : Ad} {H H' : Hp} {c : Addr} {bs ds ks : List Int} {tb td tk : Addr} {gain first full : Int} (e : Ex H H') (h : FS K Z H c bs ds ks tb td tk gain first full) : FS K Z H' c bs ds ks tb td tk gain first full := ⟨h.sr.mono e, h.ng.mono e⟩
/-- the first day of the round behind the growing ones that is as a round later -/
def SetAt (bs ds ks : List Int) (gain first full : Int) (i : Nat) : Prop := i ≤ bs.length ∧
  stkAt bs ds ks (start1 gain first full (growing gain first full)) i = stkAt bs ds ks (start1 gain first full (growing gain first full + 1)) i ∧
  ∀ j, j < i → stkAt bs ds ks (start1 gain first full (growing gain first full)) j ≠ stkAt bs ds ks (start1 gain first full (growing gain first full + 1)) j
def sp_settled (K : PySem.W.Frag) (Z : Ad) : Sp := fun vs H Q _ => ∃ (c : Addr) (bs ds ks : List Int) (tb td tk : Addr) (gain first full : Int) (i : Nat), vs = [.ref c] ∧ FS K Z H c bs ds ks tb td tk gain first full ∧ 0 ≤ gain ∧ SetAt bs ds ks gain first full i ∧
  RetV (.int (growing gain first full * (bs.length : Int) + (i : Int))) H Q
theorem spv_growing {K : PySem.W.Frag} {Z : Ad} {H : Hp} {c : Addr} {bs ds ks : List Int} {tb td tk : Addr} {gain first full : Int} (h : SR K Z H c bs ds ks tb td tk gain first full) (hg : 0 ≤ gain) :
    SpV (sp_growing K Z) [.ref c] H (.int (growing gain first full)) := fun _ e _ q _ => ⟨c, bs, ds, ks, tb, td, tk, gain, first, full, rfl, h.mono e, hg, q⟩
variable {P : Program} {w : World} {K : PySem.W.Frag} {mg : Str → Option Value} {base : Heap} {Z : Ad}
theorem ok_Course_find_settled (T : Txt K mg Z) : FnOk P w K mg base CX0 3 Z.f_Course_find_settled Z.d_Course_find_settled p_Course_find_settled (sp_settled K Z) := by
  refine T.F_Course_find_settled.ok sc_Course_find_settled (fun vs H Q E h => ?_) (fun cdv Ar outer s H vs Q E hr h => ?_)
  · obtain ⟨c, bs, ds, ks, tb, td, tk, gain, first, full, i, rfl, _⟩ := h
    rfl
  · obtain ⟨c, bs, ds, ks, tb, td, tk, gain, first, full, i, rfl, hF, hg, hi, k⟩ := h
    have hS := hF.sr
    have hP := hS.pr
    have hn := hP.gd.n1
    refine ⟨_, (pss_cons (ps_set (i := 1) sc_Course_find_settled.nd rfl (Or.inl rfl) (pe_meth0 (pv 0) T.cl_Course T.m_Course__count_growing (ok_Course__count_growing T) (hr.mono (by decide)) T.b_Course__count_growing .nil pass0))
      (pss_cons (ps_set (i := 2) sc_Course_find_settled.nd rfl (Or.inl rfl) (pe_meth (pv 0) T.cl_Course T.m_Course__stocks_in (ok_Course__stocks_in T) (hr.mono (by decide)) T.b_Course__stocks_in .nil pass0 (pa_cons (pv 1) pa_nil)))
      (pss_cons (ps_set (i := 3) sc_Course_find_settled.nd rfl (Or.inl rfl) (pe_meth (pv 0) T.cl_Course T.m_Course__stocks_in (ok_Course__stocks_in T) (hr.mono (by decide)) T.b_Course__stocks_in .nil pass0 (pa_cons (pe_op op_add (pv 1) pe_int) pa_nil)))
      (pss_cons (ps_set (i := 4) sc_Course_find_settled.nd rfl (Or.inl rfl) pe_int)
      (pss_cons (ps_while PassesOwn.never (pt_cmpR op_ne (pe_ix (r := rIxL K) ix_list (pv 2) (pv 4) (fun _ _ => rfl)) (pe_ix (r := rIxL K) ix_list (pv 3) (pv 4) (fun _ _ => rfl)) (nomark _)) (pss_one (ps_aug (i := 4) sc_Course_find_settled.nd rfl (Or.inl rfl) pe_int in_add)))
      (pss_one (ps_ret (pe_op op_add (pe_op op_mul (pv 1) (pe_callB (r := rLenS K) (call_len_seq) (by rfl) T.b_len boot_len (pa_cons (pe_fldK K rfl (pv 0) rfl) pa_nil))) (pv 4))))))))), ?_⟩
    refine q_asg (ev_meth (ev_var rfl) hF.ng ea_nil (spv_growing hS hg)) fun H1 e1 => ?_
    refine q_asgL (el_meth (ev_var rfl) (hS.nf.mono e1) (ea_cons (ev_var rfl) ea_nil) (spl_stocks (hS.mono e1))) fun p H2 hp e2 h2 => ?_
    refine q_asgL (el_meth (ev_var rfl) (hS.nf.mono (e1.trans e2)) (ea_cons (by walk_at "ev") ea_nil) (spl_stocks (hS.mono (e1.trans e2)))) fun q H3 hq e3 h3 => ?_
    refine q_asg ev_c fun H4 e4 => ?_
    refine q_while (fun m σ' H' => ∃ j : Nat, m = i - j ∧ j ≤ i ∧ σ' = [some (.ref c), some (.int (growing gain first full)), some (.ref p), some (.ref q), some (.int (j : Int))] ∧ Ex H4 H') i ⟨0, rfl, Nat.zero_le _, rfl, Ex.refl _⟩ ?_
    rintro m σ' H' ⟨j, rfl, hj, rfl, e5⟩
    have hjn : j ≤ bs.length := Nat.le_trans hj hi.1
    refine ⟨!decide (stkAt bs ds ks (start1 gain first full (growing gain first full)) j = stkAt bs ds ks (start1 gain first full (growing gain first full + 1)) j), ?_, fun hb H5 e6 => ?_, fun hb H5 e6 => ?_⟩
    · refine et_test ?_
      refine ev_is (ev_op (ev_ixL (ev_var rfl) (sq_of (e5 _ _ (e4 _ _ (e3 _ _ h2)))) (ev_var rfl) (atI_mapI (i := (j : Int)) (by omega) (by rw [stkL_len]; omega)))
        (ev_ixL (ev_var rfl) (sq_of (e5 _ _ (e4 _ _ h3))) (ev_var rfl) (atI_mapI (i := (j : Int)) (by omega) (by rw [stkL_len]; omega))) (rv_ne rfl)) ?_
      rw [Int.toNat_natCast, stkL_get hjn, stkL_get hjn]
      simp
    · have hne : stkAt bs ds ks (start1 gain first full (growing gain first full)) j ≠ stkAt bs ds ks (start1 gain first full (growing gain first full + 1)) j := by simpa using hb
      have hlt : j < i := by
        rcases Nat.lt_or_ge j i with z | z
        · exact z
        · have : j = i := by omega
          subst this
          exact absurd hi.2.1 hne
      refine ⟨fun σ2 H2 => ∃ m', m' < i - j ∧ ∃ j' : Nat, m' = i - j' ∧ j' ≤ i ∧ σ2 = [some (.ref c), some (.int (growing gain first full)), some (.ref p), some (.ref q), some (.int (j' : Int))] ∧ Ex H4 H2, fun σ2 H2 h => h, ?_⟩
      refine s_aug (a := (j : Int)) (b := 1) rfl ev_c fun H6 e7 => ?_
      exact ⟨i - (j + 1), by omega, j + 1, rfl, hlt, rfl, (e5.trans e6).trans e7⟩
    · have heq : stkAt bs ds ks (start1 gain first full (growing gain first full)) j = stkAt bs ds ks (start1 gain first full (growing gain first full + 1)) j := by simpa using hb
      have hji : j = i := by
        rcases Nat.lt_or_ge j i with z | z
        · exact absurd heq (hi.2.2 j z)
        · omega
      subst hji
      have eA : Ex H H5 := ((((e1.trans e2).trans e3).trans e4).trans e5).trans e6
      have fb := hP.fb.mono eA
      have hl : ((bs.map V.int).length : Int) = (bs.length : Int) := by rw [List.length_map]
      refine s_ret (ev_op (ev_op (ev_var rfl) (Ev.int_eq (ev_lenT (by walk_at "ev") (ex_t eA hP.hb)) hl) (rv_I (wide_ok (by omega)))) (ev_var rfl) rv_I0) fun H6 e7 => k H6 (eA.trans e7)
/-- the whole course -/
structure CO (K : PySem.W.Frag) (Z : Ad) (H : Hp) (c : Addr) (bs ds ks : List Int) (gain first full : Int) (fm lm : List Int) : Prop where
  sr : ∃ tb td tk, SR K Z H c bs ds ks tb td tk gain first full
  ffm : ∃ tf, FlK K H c Z.c_Course "_first_misses" (.ref tf) ∧ SqL K H tf (fm.map V.int)
  flm : ∃ tl, FlK K H c Z.c_Course "_later_misses" (.ref tl) ∧ SqL K H tl (lm.map V.int)
  lfm : fm.length = bs.length
  llm : lm.length = bs.length
  slm : lm.sum.natAbs ≤ 2 ^ 40
  sb : bs.sum.natAbs ≤ 2 ^ 40
  sd : ds.sum.natAbs ≤ 2 ^ 40
  nf : ∀ m : Str, m ∈ (["stock_at", "sales_on", "sales_before", "find_settled", "sum_settled_round", "loaves_at", "_misses_in", "_count_growing"] : List Str) → NoF H c Z.c_Course m
theorem CO.mono {K : PySem.W.Frag} {Z : Ad} {H H' : Hp} {c : Addr} {bs ds ks : List Int} {gain first full : Int} {fm lm : List Int} (e : Ex H H') (h : CO K Z H c bs ds ks gain first full fm lm) : CO K Z H' c bs ds ks gain first full fm lm :=
  ⟨let ⟨a, b, c, x⟩ := h.sr; ⟨a, b, c, x.mono e⟩, let ⟨a, x, y⟩ := h.ffm; ⟨a, x.mono e, ex_l e y⟩, let ⟨a, x, y⟩ := h.flm; ⟨a, x.mono e, ex_l e y⟩, h.lfm, h.llm, h.slm, h.sb, h.sd, fun m hm => (h.nf m hm).mono e⟩
def longI (bs ds lm : List Int) : List Int := [ds.sum - lm.sum, lm.sum, bs.sum - (ds.sum - lm.sum)]
def sp_sumround (K : PySem.W.Frag) (Z : Ad) : Sp := fun vs H Q _ => ∃ (c : Addr) (bs ds ks : List Int) (gain first full : Int) (fm lm : List Int), vs = [.ref c] ∧ CO K Z H c bs ds ks gain first full fm lm ∧ RetU ((longI bs ds lm).map V.int) H Q
theorem ok_Course_sum_settled_round (T : Txt K mg Z) : FnOk P w K mg base CX0 1 Z.f_Course_sum_settled_round Z.d_Course_sum_settled_round p_Course_sum_settled_round (sp_sumround K Z) := by
  refine T.F_Course_sum_settled_round.ok sc_Course_sum_settled_round (fun vs H Q E h => ?_) (fun cdv Ar outer s H vs Q E hr h => ?_)
  · obtain ⟨c, bs, ds, ks, gain, first, full, fm, lm, rfl, _⟩ := h
    rfl
  · obtain ⟨c, bs, ds, ks, gain, first, full, fm, lm, rfl, hC, k⟩ := h
    obtain ⟨tb, td, tk, hS⟩ := hC.sr
    obtain ⟨tl, fl, hl⟩ := hC.flm
    have hP := hS.pr
    have fd := hP.fd
    refine ⟨_, (pss_cons (ps_set (i := 1) sc_Course_sum_settled_round.nd rfl (Or.inl rfl) (pe_callB (r := rSum K) (cr_sum rfl) (by rfl) T.b_sum boot_sum (pa_cons (pe_fldK K rfl (pv 0) rfl) pa_nil)))
      (pss_cons (ps_set (i := 2) sc_Course_sum_settled_round.nd rfl (Or.inl rfl) (pe_op op_sub (pe_callB (r := rSumT K) (cr_sumT rfl) (by rfl) T.b_sum boot_sum (pa_cons (pe_fldK K rfl (pv 0) rfl) pa_nil)) (pv 1)))
      (pss_one (ps_ret (pe_tup (pa_cons (pv 2) (pa_cons (pv 1) (pa_cons (pe_op op_sub (pe_callB (r := rSumT K) (cr_sumT rfl) (by rfl) T.b_sum boot_sum (pa_cons (pe_fldK K rfl (pv 0) rfl) pa_nil)) (pv 2)) pa_nil)))))))), ?_⟩
    refine q_asg (ev_sumL (by walk_at "ev") hl) fun H1 e1 => ?_
    have fd := hP.fd.mono e1
    refine q_asg (ev_op (ev_sumT (by walk_at "ev") (ex_t e1 hP.hd)) (by walk_at "ev") rv_I0) fun H2 e2 => ?_
    have fb := hP.fb.mono (e1.trans e2)
    refine s_retU (eu_tup (ea_cons (ev_var rfl) (ea_cons (ev_var rfl) (ea_cons (ev_op (ev_sumT (by walk_at "ev") (ex_t (e1.trans e2) hP.hb)) (ev_var rfl) rv_I0) ea_nil))) (by show 3 ≤ 100000; decide)) fun q H3 hq e3 h3 => k q H3 (fresh_back (e1.trans e2) hq) ((e1.trans e2).trans e3) h3
/-- the first so many days -/
def missedI (bs fm lm : List Int) (days : Int) : Int := (fm.take days.toNat).sum + sumRep lm (max 0 (days - (bs.length : Int)))
def totI (bs ds ks : List Int) (gain first full : Int) (fm lm : List Int) (days : Int) : List Int :=
  [sumRep ds days - missedI bs fm lm days, missedI bs fm lm days, sumRep bs days - (sumRep ds days - missedI bs fm lm days) - stockI bs ds ks gain first full days]
def sp_before (K : PySem.W.Frag) (Z : Ad) : Sp := fun vs H Q _ => ∃ (c : Addr) (bs ds ks : List Int) (gain first full : Int) (fm lm : List Int) (days : Int), vs = [.ref c, .int days] ∧ 0 ≤ days ∧ CO K Z H c bs ds ks gain first full fm lm ∧ RetU ((totI bs ds ks gain first full fm lm days).map V.int) H Q
theorem spv_sumrep {K : PySem.W.Frag} {H : Hp} {a : Addr} {am : List Int} {days : Int} (h : SqT K H a (am.map V.int) ∨ SqL K H a (am.map V.int)) (h0 : 0 < am.length) (h1 : am.length ≤ 24) (h2 : am.sum.natAbs ≤ 2 ^ 40) :
    SpV (sp_sum_repeated K) [.ref a, .int days] H (.int (sumRep am days)) := fun _ e _ q _ => ⟨a, am, days, rfl, h.imp (ex_t e) (ex_l e), h0, h1, h2, q⟩
end Sw
namespace Sw
open PySem PySem.Spec PyProof.Rows L2 Evl
local macro_rules | `(tactic| walk_at "ev") => `(tactic| first
  | exact ev_c
  | exact ev_var rfl
  | ((with_reducible show Ev (tCB rMax2 _) _ _ _); exact ev_maxi (by walk_at "ev") (by walk_at "ev"))
  | ((with_reducible show Ev (tCB rMn _) _ _ _); exact ev_min2 (by walk_at "ev") (by walk_at "ev"))
  | ((with_reducible show Ev (tUn _ _) _ _ _); exact ev_un (by walk_at "ev") ru_neg)
  | ((with_reducible show Ev (tFld _ _ _) _ _ _); exact ev_fldK (by walk_at "ev") (by assumption))
  | ((with_reducible show Ev (tOp (rI0 _) _ _) _ _ _); exact ev_op (by walk_at "ev") (by walk_at "ev") rv_I0)
  | ((with_reducible show Ev (tOp rEq _ _) _ _ _); exact ev_op (by walk_at "ev") (by walk_at "ev") (rv_eq rfl))
  | ((with_reducible show Ev (tOp rNe _ _) _ _ _); exact ev_op (by walk_at "ev") (by walk_at "ev") (rv_ne rfl)))

/-! ### what a course is made with -/
def gainOf (bs ds : List Int) : Int := max 0 (bs.sum - ds.sum)
def firstOf (bs ds ks : List Int) : Int := stkAt bs ds ks 0 bs.length
def fullOf (bs ds ks : List Int) : Int := stkAt bs ds ks (ks.getD 0 0 + ds.getD 0 0) bs.length
def fmOf (bs ds ks : List Int) : List Int := missL ds bs (stkL bs ds ks (start1 (gainOf bs ds) (firstOf bs ds ks) (fullOf bs ds ks) 0))
def lmOf (bs ds ks : List Int) : List Int := missL ds bs (stkL bs ds ks (start1 (gainOf bs ds) (firstOf bs ds ks) (fullOf bs ds ks) 1))
theorem sum_bound {xs : List Int} {M : Int} (hM : 0 ≤ M) (h : ∀ x ∈ xs, 0 ≤ x ∧ x ≤ M) : 0 ≤ xs.sum ∧ xs.sum ≤ (xs.length : Int) * M := by
  induction xs with
  | nil => simp
  | cons a r ih =>
    have h1 := h a (by simp)
    have h2 := ih fun x hx => h x (by simp [hx])
    rw [List.sum_cons, List.length_cons]
    have e : ((r.length + 1 : Nat) : Int) * M = (r.length : Int) * M + M := by
      rw [Int.natCast_add, Int.add_mul]; simp
    omega
theorem sum_small {xs : List Int} (hl : xs.length ≤ 24) (h : ∀ x ∈ xs, 0 ≤ x ∧ x ≤ 1000000000) : 0 ≤ xs.sum ∧ xs.sum ≤ 24000000000 := by
  have z := sum_bound (by omega : (0 : Int) ≤ 1000000000) h
  have : (xs.length : Int) * 1000000000 ≤ 24 * 1000000000 := Int.mul_le_mul_of_nonneg_right (by omega) (by omega)
  omega
theorem getD_mem0 {xs : List Int} {i : Nat} (h : ∀ x ∈ xs, 0 ≤ x ∧ x ≤ 1000000000) : 0 ≤ xs.getD i 0 ∧ xs.getD i 0 ≤ 1000000000 := by
  by_cases hi : i < xs.length
  · have e : xs.getD i 0 = xs[i] := by simp [List.getD, hi]
    rw [e]; exact h _ (List.getElem_mem hi)
  · have e : xs.getD i 0 = 0 := by simp [List.getD, List.getElem?_eq_none (Nat.le_of_not_lt hi)]
    rw [e]; omega
theorem keepAt_nn {bs : List Int} {life : Int} {i : Nat} (h : ∀ x ∈ bs, 0 ≤ x ∧ x ≤ 1000000000) : 0 ≤ keepAt bs life i := by
  unfold keepAt
  generalize (life - 1).toNat = m
  induction m with
  | zero => simp
  | succ m ih =>
    rw [List.range_succ, List.map_append, List.sum_append]
    have z := (getD_mem0 (i := ((((i : Int) - (m : Int)) % (bs.length : Int)).toNat)) h).1
    simp at z ih ⊢
    omega
theorem keepL_nn {bs : List Int} {life : Int} (h : ∀ x ∈ bs, 0 ≤ x ∧ x ≤ 1000000000) {i : Nat} : 0 ≤ (keepL bs life).getD i 0 := by
  unfold keepL
  by_cases hi : i < bs.length
  · have e : ((List.range bs.length).map (keepAt bs life)).getD i 0 = keepAt bs life i := by simp [List.getD, List.getElem?_range hi]
    rw [e]; exact keepAt_nn h
  · have e : ((List.range bs.length).map (keepAt bs life)).getD i 0 = 0 := by
      simp [List.getD, List.getElem?_eq_none (show (List.map (keepAt bs life) (List.range bs.length)).length ≤ i by simp; omega)]
    rw [e]; omega
theorem stp_nn {s b d k : Int} (hk : 0 ≤ k) : 0 ≤ stp s b d k := by unfold stp; omega
theorem stkAt_nn {bs ds ks : List Int} {s : Int} (hs : 0 ≤ s) (hk : ∀ i, 0 ≤ ks.getD i 0) (i : Nat) : 0 ≤ stkAt bs ds ks s i := by
  cases i with
  | zero => exact hs
  | succ i => exact stp_nn (hk i)
theorem missL_len {ds bs st : List Int} : (missL ds bs st).length = ds.length := by simp [missL]
theorem missL_small {ds bs st : List Int} (hd : ∀ x ∈ ds, 0 ≤ x ∧ x ≤ 1000000000) (hb : ∀ i, 0 ≤ bs.getD i 0) (hs : ∀ i, i < ds.length → 0 ≤ st.getD i 0) : ∀ x ∈ missL ds bs st, 0 ≤ x ∧ x ≤ 1000000000 := by
  intro x hx
  unfold missL at hx
  obtain ⟨i, hi, rfl⟩ := List.mem_map.mp hx
  have h1 := hb i
  have h2 := hs i (List.mem_range.mp hi)
  have h3 := getD_mem0 (i := i) hd
  omega
theorem start1_nn {gain first full r : Int} (hg : 0 ≤ gain) (hf : 0 ≤ first) (hu : 0 ≤ full) (hr : 0 ≤ r) : 0 ≤ start1 gain first full r := by
  unfold start1
  by_cases h : r = 0
  · rw [if_pos h]; omega
  · rw [if_neg h]
    have : 0 ≤ (r - 1) * gain := Int.mul_nonneg (by omega) hg
    omega
structure CoM (bs ds ks : List Int) : Prop where
  gd : Good bs ds
  kl : ks.length = bs.length
  kn : ∀ i, 0 ≤ ks.getD i 0
theorem CoM.first {bs ds ks : List Int} (h : CoM bs ds ks) : 0 ≤ firstOf bs ds ks := stkAt_nn (by omega) h.kn _
theorem CoM.full {bs ds ks : List Int} (h : CoM bs ds ks) : 0 ≤ fullOf bs ds ks := stkAt_nn (by have := h.kn 0; have := (getD_mem0 (i := 0) h.gd.d0).1; omega) h.kn _
theorem CoM.gainb {bs ds ks : List Int} (h : CoM bs ds ks) : 0 ≤ gainOf bs ds ∧ gainOf bs ds ≤ 24000000000 := by
  have z1 := sum_small h.gd.n1 h.gd.b0
  have z2 := sum_small (by have := h.gd.ld; have := h.gd.n1; omega) h.gd.d0
  unfold gainOf; omega
theorem CoM.miss {bs ds ks : List Int} (h : CoM bs ds ks) {r : Int} (hr : 0 ≤ r) : ∀ x ∈ missL ds bs (stkL bs ds ks (start1 (gainOf bs ds) (firstOf bs ds ks) (fullOf bs ds ks) r)), 0 ≤ x ∧ x ≤ 1000000000 := by
  refine missL_small h.gd.d0 (fun i => (getD_mem0 h.gd.b0).1) fun i hi => ?_
  rw [stkL_get (by have := h.gd.ld; omega)]
  exact stkAt_nn (start1_nn h.gainb.1 h.first h.full hr) h.kn i
/-- from H to S, what is not of M is kept, and what is of M is known -/
structure Go (M : Addr → Prop) (a : Addr) (H S : Hp) : Prop where
  ex : Ex (wn H M) (wn S M)
  kn : ∀ b, M b → S b ≠ none
  al : ∀ b o, H b = some o → b ≠ a → S b = some o
theorem Go.up {M : Addr → Prop} {H H1 : Hp} {a : Addr} {o : HO} (ha : M a) (kn : ∀ b, M b → H b ≠ none) (e : Ex H H1) : Go M a H (upd H1 a o) := by
  refine ⟨(wn_mono e).trans (wn_upd ha), fun b hb q => ?_, fun b u h z => by rw [upd_ne z]; exact e b u h⟩
  by_cases z : b = a
  · rw [z, upd_same] at q; cases q
  · rw [upd_ne z] at q
    cases hh : H b with
    | none => exact kn b hb hh
    | some u => rw [e b u hh] at q; cases q
/-- the finished course of a bakery -/
def CoAt (K : PySem.W.Frag) (Z : Ad) (H : Hp) (c : Addr) (bs ds ks : List Int) : Prop :=
  CO K Z H c bs ds ks (gainOf bs ds) (firstOf bs ds ks) (fullOf bs ds ks) (fmOf bs ds ks) (lmOf bs ds ks)
def sp_Cinit (K : PySem.W.Frag) (Z : Ad) : Sp := fun vs H Q _ => ∃ (x dx tb td : Addr) (bs ds : List Int) (life : Int) (N : Addr → Prop), vs = [.ref x, .ref tb, .ref td, .int life] ∧ H x = some (.ins Z.c_Course dx []) ∧
  SqT K (wn H N) tb (bs.map V.int) ∧ SqT K (wn H N) td (ds.map V.int) ∧ Good bs ds ∧ 1 ≤ life ∧ life ≤ 30 ∧
  (∀ b, N b → H b ≠ none) ∧ ¬ N x ∧ ∀ H', CoAt K Z (wn H' N) x bs ds (keepL bs life) → (∀ b o, H b = some o → b ≠ x → H' b = some o) → Q .non H'
theorem spl_keep {K : PySem.W.Frag} {H : Hp} {a : Addr} {bs : List Int} {life : Int} (h : SqT K H a (bs.map V.int)) (h0 : 0 < bs.length) (h1 : bs.length ≤ 24) (h2 : 1 ≤ life) (h3 : life ≤ 30) :
    SpL (sp_count_keepable K) [.ref a, .int life] H ((keepL bs life).map V.int) := fun _ e _ q _ => ⟨a, bs, life, rfl, ex_t e h, h0, h1, h2, h3, q⟩
theorem keepL_len {bs : List Int} {life : Int} : (keepL bs life).length = bs.length := by simp [keepL]
theorem atI_neg1 {xs : List Int} {n : Nat} (h : xs.length = n + 1) : atI (xs.map V.int) (-1) = some (.int (xs.getD n 0)) := by
  have e : ixN (xs.map V.int).length (-1) = some n := by
    unfold ixN
    rw [List.length_map, h]
    rw [if_neg (by omega), if_pos (by omega)]
    congr 1
    omega
  unfold atI
  rw [e]
  simp [List.getD, h]
theorem flk_of {K : PySem.W.Frag} {S : Hp} {x C dx : Addr} {fs : List (Str × V)} {f : Str} {v : V} (h : S x = some (.ins C dx fs)) (c : Cls K C) (n : NoAttr K C f) (l : fs.lookup f = some v) : FlK K S x C f v := ⟨⟨dx, fs, h, l⟩, c, n⟩
def cf3 (tb td tk : Addr) : List (Str × V) := putF "_keepable" (.ref tk) (putF "_demands" (.ref td) (putF "_bakes" (.ref tb) []))
def cf6 (tb td tk : Addr) (g a b : Int) : List (Str × V) := putF "_full_end" (.int b) (putF "_first_end" (.int a) (putF "_gain" (.int g) (cf3 tb td tk)))
def cf8 (tb td tk tf tl : Addr) (g a b : Int) : List (Str × V) := putF "_later_misses" (.ref tl) (putF "_first_misses" (.ref tf) (cf6 tb td tk g a b))
section
variable {K : PySem.W.Frag} {σ : L2.St} {H : Hp} {ta te : TE} {v : V} {a C dx : Addr} {fs : List (Str × V)} {f : Str} {D : Ends} {tz : TS}
variable {M : Addr → Prop}
/-- self.f = e while self is being made -/
theorem q_self (ha : M a) (kn : ∀ b, M b → H b ≠ none) (h : Ev te σ H v) (ho : ∀ H1, Ex H H1 → Ev ta σ H1 (.ref a)) (hx : H a = some (.ins C dx fs)) (c : Cls K C) (n : NoAttr K C f) (hl : fs.length < 1000)
    (k : ∀ S : Hp, S a = some (.ins C dx (putF f v fs)) → Go M a H S → tz D σ S) : tSeq (sFld K ta te f) tz D σ H := q_fld h ho hx c n hl fun H1 e => k _ upd_same (Go.up ha kn e)
theorem fresh_l {H H1 : Hp} {p : Addr} {xs : List V} {o : HO} (ha : M a) (kn : ∀ b, M b → H b ≠ none) (hp : H p = none) (h1 : H1 p = some (.lst xs)) : SqL K (wn (upd H1 a o) M) p xs := by
  have q : ¬ M p := fun z => kn p z hp
  have nb : p ≠ a := fun z => q (by rw [z]; exact ha)
  exact sq_of (by rw [wn_ni q, upd_ne nb]; exact h1)
theorem fresh_t {H H1 : Hp} {p : Addr} {xs : List V} {o : HO} (ha : M a) (kn : ∀ b, M b → H b ≠ none) (hp : H p = none) (h1 : H1 p = some (.tup xs)) : SqT K (wn (upd H1 a o) M) p xs := by
  have q : ¬ M p := fun z => kn p z hp
  have nb : p ≠ a := fun z => q (by rw [z]; exact ha)
  exact st_of (by rw [wn_ni q, upd_ne nb]; exact h1)
theorem q_selfL {xs : List V} (ha : M a) (kn : ∀ b, M b → H b ≠ none) (h : EvL te σ H xs) (ho : ∀ H1, Ex H H1 → Ev ta σ H1 (.ref a)) (hx : H a = some (.ins C dx fs)) (c : Cls K C) (n : NoAttr K C f) (hl : fs.length < 1000)
    (k : ∀ (p : Addr) (S : Hp), SqL K (wn S M) p xs → S a = some (.ins C dx (putF f (.ref p) fs)) → Go M a H S → tz D σ S) : tSeq (sFld K ta te f) tz D σ H := q_fldL h ho hx c n hl fun p H1 hp e h1 =>
  k p _ (fresh_l ha kn hp h1) upd_same (Go.up ha kn e)
theorem s_selfL {xs : List V} (ha : M a) (kn : ∀ b, M b → H b ≠ none) (h : EvL te σ H xs) (ho : ∀ H1, Ex H H1 → Ev ta σ H1 (.ref a)) (hx : H a = some (.ins C dx fs)) (c : Cls K C) (n : NoAttr K C f) (hl : fs.length < 1000)
    (k : ∀ (p : Addr) (S : Hp), SqL K (wn S M) p xs → S a = some (.ins C dx (putF f (.ref p) fs)) → Go M a H S → D.nx σ S) : sFld K ta te f D σ H := s_fldL h ho hx c n hl fun p H1 hp e h1 =>
  k p _ (fresh_l ha kn hp h1) upd_same (Go.up ha kn e)
theorem q_selfU {xs : List V} (ha : M a) (kn : ∀ b, M b → H b ≠ none) (h : EvU te σ H xs) (ho : ∀ H1, Ex H H1 → Ev ta σ H1 (.ref a)) (hx : H a = some (.ins C dx fs)) (c : Cls K C) (n : NoAttr K C f) (hl : fs.length < 1000)
    (k : ∀ (p : Addr) (S : Hp), SqT K (wn S M) p xs → S a = some (.ins C dx (putF f (.ref p) fs)) → Go M a H S → D.nx σ S) : sFld K ta te f D σ H := s_fldU h ho hx c n hl fun p H1 hp e h1 =>
  k p _ (fresh_t ha kn hp h1) upd_same (Go.up ha kn e)
end
variable {P : Program} {w : World} {K : PySem.W.Frag} {mg : Str → Option Value} {base : Heap} {Z : Ad}
theorem ok_Course___init__ (T : Txt K mg Z) : FnOk P w K mg base CX0 4 Z.f_Course___init__ Z.d_Course___init__ p_Course___init__ (sp_Cinit K Z) := by
  refine T.F_Course___init__.ok sc_Course___init__ (fun vs H Q E h => ?_) (fun cdv Ar outer s H vs Q E hr h => ?_)
  · obtain ⟨x, dx, tb, td, bs, ds, life, N, rfl, _⟩ := h
    rfl
  · obtain ⟨x, dx, tb, td, bs, ds, life, N, rfl, hx, hb, hd, gd, l0, l1, hN, nNx, k⟩ := h
    have hM : nx x N x := .inl rfl
    have cl := T.cl_Course
    have hbw : SqT K (wn H (nx x N)) tb (bs.map V.int) := wn_tx hx hb
    have hdw : SqT K (wn H (nx x N)) td (ds.map V.int) := wn_tx hx hd
    have kn0 : ∀ b, nx x N b → H b ≠ none := fun b z q => z.elim (fun e => by rw [e, hx] at q; cases q) fun e => hN b e q
    refine ⟨_, (pss_cons (ps_fld (pv 0) (pv 1) rfl)
      (pss_cons (ps_fld (pv 0) (pv 2) rfl)
      (pss_cons (ps_fld (pv 0) (pe_call (ok_count_keepable T) (hr.mono (by decide)) (by rfl) T.g_count_keepable T.F_count_keepable.kp T.b_count_keepable .nil pass0 (pa_cons (pv 1) (pa_cons (pv 3) pa_nil))) rfl)
      (pss_cons (ps_fld (pv 0) (pe_callB (r := rMax2) (call_max2 rfl) (by rfl) T.b_max boot_max (pa_cons pe_int (pa_cons (pe_op op_sub (pe_callB (r := rSumT K) (cr_sumT rfl) (by rfl) T.b_sum boot_sum (pa_cons (pv 1) pa_nil)) (pe_callB (r := rSumT K) (cr_sumT rfl) (by rfl) T.b_sum boot_sum (pa_cons (pv 2) pa_nil))) pa_nil))) rfl)
      (pss_cons (ps_fld (pv 0) (pe_ix (r := rIxL K) ix_list (pe_meth (pv 0) T.cl_Course T.m_Course__play_round (ok_Course__play_round T) (hr.mono (by decide)) T.b_Course__play_round .nil pass0 (pa_cons pe_int pa_nil)) (pe_un un_neg pe_int) (fun _ _ => rfl)) rfl)
      (pss_cons (ps_fld (pv 0) (pe_ix (r := rIxL K) ix_list (pe_meth (pv 0) T.cl_Course T.m_Course__play_round (ok_Course__play_round T) (hr.mono (by decide)) T.b_Course__play_round .nil pass0 (pa_cons (pe_op op_add (pe_ix (r := rIxL K) ix_list (pe_fldK K rfl (pv 0) rfl) pe_int (fun _ _ => rfl)) (pe_ix (r := rIxT K) ix_tup (pv 2) pe_int (fun _ _ => rfl))) pa_nil)) (pe_un un_neg pe_int) (fun _ _ => rfl)) rfl)
      (pss_cons (ps_fld (pv 0) (pe_meth (pv 0) T.cl_Course T.m_Course__misses_in (ok_Course__misses_in T) (hr.mono (by decide)) T.b_Course__misses_in .nil pass0 (pa_cons pe_int pa_nil)) rfl)
      (pss_one (ps_fld (pv 0) (pe_meth (pv 0) T.cl_Course T.m_Course__misses_in (ok_Course__misses_in T) (hr.mono (by decide)) T.b_Course__misses_in .nil pass0 (pa_cons pe_int pa_nil)) rfl))))))))), ?_⟩
    -- _bakes, _demands, _keepable
    refine q_self hM kn0 (ev_var rfl) (fun _ _ => ev_var rfl) hx cl T.na_Course__bakes (by decide) fun S1 x1 g1 => ?_
    have w1 := g1.ex
    refine q_self hM g1.kn (ev_var rfl) (fun _ _ => ev_var rfl) x1 cl T.na_Course__demands (by show 1 < 1000; decide) fun S2 x2 g2 => ?_
    have w2 := g2.ex
    refine q_selfL hM g2.kn (el_call (vs := [.ref tb, .int life]) (ea_cons (ev_var rfl) (ea_cons (ev_var rfl) ea_nil)) (spl_keep (ex_t ((w1.trans w2).trans wn_ex) hbw) gd.n0 gd.n1 l0 l1)) (fun _ _ => ev_var rfl) x2 cl T.na_Course__keepable (by show 2 < 1000; decide) fun tk S3 hk3 x3 g3 => ?_
    have w3' := g3.ex
    have w3 := (w1.trans w2).trans w3'
    have m0 : CoM bs ds (keepL bs life) := ⟨gd, keepL_len, fun i => keepL_nn gd.b0⟩
    have sb : ∀ {S : Hp}, Ex (wn S (nx x N)) (wn S N) := wn_sub fun b z => .inr z
    have pr : ∀ {S : Hp} {fs : List (Str × V)}, Ex (wn S3 (nx x N)) (wn S (nx x N)) → S x = some (.ins Z.c_Course dx fs) → fs.lookup ("_bakes" : Str) = some (V.ref tb) → fs.lookup ("_demands" : Str) = some (V.ref td) → fs.lookup ("_keepable" : Str) = some (V.ref tk) → fs.lookup ("_play_round" : Str) = none → PR K Z (wn S N) x bs ds (keepL bs life) tb td tk :=
      fun e hx' l1 l2 l3 l4 => by
        have hx : wn _ N x = _ := (wn_ni nNx).trans hx'
        exact ⟨flk_of hx cl T.na_Course__bakes l1, ex_t sb (ex_t e (ex_t w3 hbw)), flk_of hx cl T.na_Course__demands l2, ex_t sb (ex_t e (ex_t w3 hdw)), flk_of hx cl T.na_Course__keepable l3, ex_l sb (ex_l e hk3), ⟨_, _, hx, l4⟩, gd, keepL_len⟩
    -- _gain
    refine q_self hM g3.kn (v := .int (gainOf bs ds)) (ev_maxi ev_c (ev_op (ev_sumT (ev_var rfl) (ex_t wn_ex (ex_t w3 hbw))) (ev_sumT (ev_var rfl) (ex_t wn_ex (ex_t w3 hdw))) rv_I0)) (fun _ _ => ev_var rfl) x3 cl T.na_Course__gain (by show 3 < 1000; decide) fun S4 x4 g4 => ?_
    have w4 := g4.ex
    have p4 := (pr w4 x4 rfl rfl rfl rfl).mono wn_ex
    -- _first_end
    have n1 : (stkL bs ds (keepL bs life) 0).length = bs.length + 1 := stkL_len
    refine q_self hM g4.kn (v := .int (firstOf bs ds (keepL bs life))) (ev_is (ev_ixNL (el_meth (ev_var rfl) p4.nf (ea_cons ev_c ea_nil) (spl_play (s := 0) p4)) (ev_un ev_c ru_neg) (atI_neg1 n1)) (by rw [stkL_get (Nat.le_refl _)]; rfl)) (fun _ _ => ev_var rfl) x4 cl T.na_Course__first_end (by show 4 < 1000; decide) fun S5 x5 g5 => ?_
    have w5 := g5.ex
    have p5 := (pr (w4.trans w5) x5 rfl rfl rfl rfl).mono wn_ex
    -- _full_end
    have n2 : (stkL bs ds (keepL bs life) ((keepL bs life).getD 0 0 + ds.getD 0 0)).length = bs.length + 1 := stkL_len
    have h0 := gd.n0
    have hld := gd.ld
    have fk5 := p5.fk
    refine q_self hM g5.kn (v := .int (fullOf bs ds (keepL bs life))) (ev_is (ev_ixNL (el_meth (ev_var rfl) p5.nf (ea_cons (ev_op (ev_ixL (by walk_at "ev") p5.hk ev_c (atI_mapI (i := 0) (by omega) (by rw [keepL_len]; omega))) (ev_ixT (ev_var rfl) p5.hd ev_c (atI_mapI (i := 0) (by omega) (by omega))) rv_I0) ea_nil) (spl_play p5)) (ev_un ev_c ru_neg) (atI_neg1 n2)) (by rw [stkL_get (Nat.le_refl _)]; rfl)) (fun _ _ => ev_var rfl) x5 cl T.na_Course__full_end (by show 5 < 1000; decide) fun S6 x6 g6 => ?_
    have w6 := g6.ex
    have w46 := (w4.trans w5).trans w6
    have gb := m0.gainb
    have sr : ∀ {S : Hp} {fs : List (Str × V)}, Ex (wn S6 (nx x N)) (wn S (nx x N)) → S x = some (.ins Z.c_Course dx fs) → fs.lookup ("_bakes" : Str) = some (V.ref tb) → fs.lookup ("_demands" : Str) = some (V.ref td) → fs.lookup ("_keepable" : Str) = some (V.ref tk) → fs.lookup ("_play_round" : Str) = none →
        fs.lookup ("_gain" : Str) = some (V.int (gainOf bs ds)) → fs.lookup ("_first_end" : Str) = some (V.int (firstOf bs ds (keepL bs life))) → fs.lookup ("_full_end" : Str) = some (V.int (fullOf bs ds (keepL bs life))) → fs.lookup ("_stocks_in" : Str) = none → SR K Z (wn S N) x bs ds (keepL bs life) tb td tk (gainOf bs ds) (firstOf bs ds (keepL bs life)) (fullOf bs ds (keepL bs life)) :=
      fun e hx' l1 l2 l3 l4 l5 l6 l7 l8 => by
        have hx : wn _ N x = _ := (wn_ni nNx).trans hx'
        exact ⟨pr (w46.trans e) hx' l1 l2 l3 l4, flk_of hx cl T.na_Course__gain l5, flk_of hx cl T.na_Course__first_end l6, flk_of hx cl T.na_Course__full_end l7, ⟨_, _, hx, l8⟩, by omega⟩
    have s6 := (sr (Ex.refl _) x6 rfl rfl rfl rfl rfl rfl rfl rfl).mono wn_ex
    refine q_selfL hM g6.kn (xs := (fmOf bs ds (keepL bs life)).map V.int) (el_meth (ev_var rfl) ⟨_, _, x6, rfl⟩ (ea_cons ev_c ea_nil) (spl_misses (r := 0) s6)) (fun _ _ => ev_var rfl) x6 cl T.na_Course__first_misses (by show 6 < 1000; decide) fun tf S7 hf7 x7 g7 => ?_
    have w7 := g7.ex
    have s7 := (sr w7 x7 rfl rfl rfl rfl rfl rfl rfl rfl).mono wn_ex
    refine s_selfL hM g7.kn (xs := (lmOf bs ds (keepL bs life)).map V.int) (el_meth (ev_var rfl) ⟨_, _, x7, rfl⟩ (ea_cons ev_c ea_nil) (spl_misses (r := 1) s7)) (fun _ _ => ev_var rfl) x7 cl T.na_Course__later_misses (by show 7 < 1000; decide) fun tl S8 hl8 x8 g8 => ?_
    have w8 := g8.ex
    have s8 := sr (w7.trans w8) x8 rfl rfl rfl rfl rfl rfl rfl rfl
    have ll : (lmOf bs ds (keepL bs life)).length = bs.length := by unfold lmOf; rw [missL_len]; exact hld
    have q1 := sum_small (xs := lmOf bs ds (keepL bs life)) (by rw [ll]; exact gd.n1) (m0.miss (r := 1) (by omega))
    have q2 := sum_small gd.n1 gd.b0
    have q3 := sum_small (by have := gd.n1; omega) gd.d0
    have y8 : wn S8 N x = _ := (wn_ni nNx).trans x8
    refine k S8 ⟨⟨tb, td, tk, s8⟩, ⟨tf, flk_of y8 cl T.na_Course__first_misses rfl, ex_l sb (ex_l w8 hf7)⟩, ⟨tl, flk_of y8 cl T.na_Course__later_misses rfl, ex_l sb hl8⟩, ?_, ll, ?_, by omega, by omega, ?_⟩ fun b o hbo hne => ?_
    · unfold fmOf; rw [missL_len]; exact hld
    · omega
    · intro m hm
      refine ⟨_, _, y8, ?_⟩
      simp only [List.mem_cons, List.not_mem_nil, or_false] at hm
      rcases hm with rfl | rfl | rfl | rfl | rfl | rfl | rfl | rfl <;> rfl
    · exact g8.al b o (g7.al b o (g6.al b o (g5.al b o (g4.al b o (g3.al b o (g2.al b o (g1.al b o hbo hne) hne) hne) hne) hne) hne) hne) hne
end Sw
namespace Sw
/-! ### the mathematics of the stock -/
section
variable {bs ds ks : List Int}
/-- what is gained in the first so many days of a round -/
def dlt (bs ds : List Int) : Nat → Int
  | 0 => 0
  | i + 1 => dlt bs ds i + (bs.getD i 0 - ds.getD i 0)
theorem clamp_step {lo hi z b d k : Int} (h0 : 0 ≤ lo) (h1 : lo ≤ hi) (hk : 0 ≤ k) :
    stp (min hi (max lo z)) b d k = min (stp hi b d k) (max (stp lo b d k) (z + (b - d))) := by
  unfold stp; omega
theorem clamp (h : CoM bs ds ks) (i : Nat) (hi : 0 < i) : ∃ lo hi : Int, 0 ≤ lo ∧ lo ≤ hi ∧ (∀ x, stkAt bs ds ks x i = min hi (max lo (x + dlt bs ds i))) ∧ stkAt bs ds ks (ks.getD 0 0 + ds.getD 0 0) i = hi := by
  induction i with
  | zero => omega
  | succ i ih =>
    have hk := h.kn i
    by_cases hi0 : i = 0
    · subst hi0
      have hb := (getD_mem0 (i := 0) h.gd.b0).1
      refine ⟨0, ks.getD 0 0, Int.le_refl _, hk, fun x => ?_, ?_⟩
      · show stp x _ _ _ = _
        unfold stp dlt dlt
        omega
      · show stp _ _ _ _ = _
        unfold stp
        simp only [stkAt]
        omega
    · obtain ⟨lo, hi', a, b, c, d⟩ := ih (by omega)
      refine ⟨stp lo (bs.getD i 0) (ds.getD i 0) (ks.getD i 0), stp hi' (bs.getD i 0) (ds.getD i 0) (ks.getD i 0), stp_nn hk, by unfold stp; omega, fun x => ?_, ?_⟩
      · show stp (stkAt bs ds ks x i) _ _ _ = _
        rw [c x, clamp_step a b hk]
        have e : x + dlt bs ds i + (bs.getD i 0 - ds.getD i 0) = x + dlt bs ds (i + 1) := by
          show _ = x + (dlt bs ds i + _); omega
        rw [e]
      · show stp (stkAt bs ds ks _ i) _ _ _ = _
        rw [d]
theorem sum_take_succ (xs : List Int) (i : Nat) : (xs.take (i + 1)).sum = (xs.take i).sum + xs.getD i 0 := by
  induction xs generalizing i with
  | nil => simp
  | cons a r ih =>
    cases i with
    | zero => simp
    | succ i =>
      have z := ih i
      simp only [List.take_succ_cons, List.sum_cons, List.getD_cons_succ]
      omega
theorem dlt_sum (i : Nat) : dlt bs ds i = (bs.take i).sum - (ds.take i).sum := by
  induction i with
  | zero => simp [dlt]
  | succ i ih => rw [sum_take_succ, sum_take_succ, dlt, ih]; omega
/-- a round: from the stock at its beginning to the one at its end -/
theorem round_clamp (h : CoM bs ds ks) : ∃ lo : Int, 0 ≤ lo ∧ lo ≤ fullOf bs ds ks ∧ ∀ x, stkAt bs ds ks x bs.length = min (fullOf bs ds ks) (max lo (x + (bs.sum - ds.sum))) := by
  obtain ⟨lo, hi, a, b, c, d⟩ := clamp h bs.length h.gd.n0
  have e : fullOf bs ds ks = hi := d
  have q : dlt bs ds bs.length = bs.sum - ds.sum := by
    rw [dlt_sum, List.take_length, ← h.gd.ld, List.take_length]
  rw [e]
  exact ⟨lo, a, b, fun x => by rw [c x, q]⟩
abbrev st (bs ds ks : List Int) (r : Int) : Int := start1 (gainOf bs ds) (firstOf bs ds ks) (fullOf bs ds ks) r
theorem st_zero : st bs ds ks 0 = 0 := by unfold st start1; rw [if_pos rfl]
theorem st_pos {r : Int} (h : r ≠ 0) : st bs ds ks r = min (fullOf bs ds ks) (firstOf bs ds ks + (r - 1) * gainOf bs ds) := by unfold st start1; rw [if_neg h]
theorem st_step (h : CoM bs ds ks) {r : Int} (hr : 0 ≤ r) : st bs ds ks (r + 1) = stkAt bs ds ks (st bs ds ks r) bs.length := by
  obtain ⟨lo, a, b, c⟩ := round_clamp h
  have hf : firstOf bs ds ks = min (fullOf bs ds ks) (max lo (0 + (bs.sum - ds.sum))) := c 0
  rw [st_pos (by omega)]
  by_cases h0 : r = 0
  · subst h0
    rw [st_zero]
    show _ = firstOf bs ds ks
    have e : ((0 : Int) + 1 - 1) * gainOf bs ds = 0 := by simp
    rw [e]; omega
  · rw [st_pos h0, c]
    have e : (r + 1 - 1) * gainOf bs ds = (r - 1) * gainOf bs ds + gainOf bs ds := by
      have : r + 1 - 1 = (r - 1) + 1 := by omega
      rw [this, Int.add_mul, Int.one_mul]
    rw [e]
    have hg : gainOf bs ds = max 0 (bs.sum - ds.sum) := rfl
    have hp : 0 ≤ (r - 1) * gainOf bs ds := Int.mul_nonneg (by omega) (by omega)
    by_cases hd : bs.sum - ds.sum ≤ 0
    · have g0 : gainOf bs ds = 0 := by omega
      rw [g0, Int.mul_zero]
      omega
    · generalize (r - 1) * gainOf bs ds = t at hp
      omega
/-- the days one by one -/
def dayS (bs ds ks : List Int) : Nat → Int
  | 0 => 0
  | t + 1 => stp (dayS bs ds ks t) (bs.getD (t % bs.length) 0) (ds.getD (t % bs.length) 0) (ks.getD (t % bs.length) 0)
theorem dayS_round (h : CoM bs ds ks) (r : Nat) : ∀ i, i ≤ bs.length → dayS bs ds ks (r * bs.length + i) = stkAt bs ds ks (st bs ds ks (r : Int)) i := by
  have hn := h.gd.n0
  induction r with
  | zero =>
    intro i hi
    rw [show ((0 : Nat) : Int) = 0 from rfl, st_zero]
    induction i with
    | zero => simp [dayS, stkAt]
    | succ i ih =>
      have e : (0 * bs.length + i) % bs.length = i := by rw [Nat.zero_mul, Nat.zero_add, Nat.mod_eq_of_lt (by omega)]
      rw [show 0 * bs.length + (i + 1) = (0 * bs.length + i) + 1 by omega]
      show stp (dayS bs ds ks (0 * bs.length + i)) _ _ _ = stp (stkAt bs ds ks 0 i) _ _ _
      rw [e, ih (by omega)]
  | succ r ihr =>
    intro i hi
    induction i with
    | zero =>
      have z := ihr bs.length (Nat.le_refl _)
      rw [← st_step h (by omega)] at z
      rw [show (r + 1) * bs.length + 0 = r * bs.length + bs.length by rw [Nat.add_mul, Nat.one_mul]; omega, z]
      show st bs ds ks ((r : Int) + 1) = st bs ds ks (((r + 1 : Nat)) : Int)
      congr 1
    | succ i ih =>
      have e : ((r + 1) * bs.length + i) % bs.length = i := by rw [Nat.mul_comm, Nat.mul_add_mod, Nat.mod_eq_of_lt (by omega)]
      rw [show (r + 1) * bs.length + (i + 1) = ((r + 1) * bs.length + i) + 1 by omega]
      show stp (dayS bs ds ks ((r + 1) * bs.length + i)) _ _ _ = stp (stkAt bs ds ks _ i) _ _ _
      rw [e, ih (by omega)]
theorem day_split (t n : Nat) (hn : 0 < n) : ((t : Int) / (n : Int)) = ((t / n : Nat) : Int) ∧ ((t : Int) % (n : Int)).toNat = t % n := by
  constructor
  · exact (Int.natCast_ediv t n).symm
  · have := Int.natCast_emod t n; omega
theorem stock_is (h : CoM bs ds ks) (t : Nat) : stockI bs ds ks (gainOf bs ds) (firstOf bs ds ks) (fullOf bs ds ks) (t : Int) = dayS bs ds ks t := by
  have hn := h.gd.n0
  obtain ⟨e1, e2⟩ := day_split t bs.length hn
  unfold stockI
  rw [e1, e2]
  have z := dayS_round h (t / bs.length) (t % bs.length) (Nat.le_of_lt (Nat.mod_lt _ hn))
  rw [show t / bs.length * bs.length + t % bs.length = t by rw [Nat.mul_comm]; exact Nat.div_add_mod _ _] at z
  exact z.symm
theorem end_is (h : CoM bs ds ks) (t : Nat) : endI bs ds ks (gainOf bs ds) (firstOf bs ds ks) (fullOf bs ds ks) (t : Int) = dayS bs ds ks (t + 1) := by
  have hn := h.gd.n0
  obtain ⟨e1, e2⟩ := day_split t bs.length hn
  unfold endI
  rw [e1, e2]
  have z := dayS_round h (t / bs.length) (t % bs.length + 1) (Nat.mod_lt _ hn)
  rw [show t / bs.length * bs.length + (t % bs.length + 1) = t + 1 by have := Nat.div_add_mod t bs.length; rw [Nat.mul_comm]; omega] at z
  exact z.symm
theorem dayS_nn (h : CoM bs ds ks) (t : Nat) : 0 ≤ dayS bs ds ks t := by
  cases t with
  | zero => exact Int.le_refl _
  | succ t => exact stp_nn (h.kn _)
/-- the stock is never less than a round before -/
theorem dayS_le (h : CoM bs ds ks) (t : Nat) : dayS bs ds ks t ≤ dayS bs ds ks (t + bs.length) := by
  induction t with
  | zero => exact dayS_nn h _
  | succ t ih =>
    rw [show t + 1 + bs.length = (t + bs.length) + 1 by omega]
    show stp _ _ _ _ ≤ stp _ _ _ _
    rw [Nat.add_mod_right]
    unfold stp; omega
theorem dayS_same {t : Nat} (e : dayS bs ds ks t = dayS bs ds ks (t + bs.length)) (u : Nat) : dayS bs ds ks (t + u) = dayS bs ds ks (t + u + bs.length) := by
  induction u with
  | zero => exact e
  | succ u ih =>
    rw [show t + (u + 1) + bs.length = (t + u + bs.length) + 1 by omega, show t + (u + 1) = (t + u) + 1 by omega]
    show stp _ _ _ _ = stp _ _ _ _
    rw [Nat.add_mod_right, ih]
/-! ### the settled day -/
theorem least {p : Nat → Prop} : ∀ n, p n → ∃ m, m ≤ n ∧ p m ∧ ∀ j, j < m → ¬ p j := by
  intro n
  induction n using Nat.strongRecOn with
  | ind n ih =>
    intro hp
    by_cases q : ∃ j, j < n ∧ p j
    · obtain ⟨j, hj, hpj⟩ := q
      obtain ⟨m, a, b, c⟩ := ih j hj hpj
      exact ⟨m, by omega, b, c⟩
    · exact ⟨n, Nat.le_refl _, hp, fun j hj hpj => q ⟨j, hj, hpj⟩⟩
abbrev grw (bs ds ks : List Int) : Int := growing (gainOf bs ds) (firstOf bs ds ks) (fullOf bs ds ks)
theorem first_le (h : CoM bs ds ks) : firstOf bs ds ks ≤ fullOf bs ds ks := by
  obtain ⟨lo, a, b, c⟩ := round_clamp h
  have hf : firstOf bs ds ks = min (fullOf bs ds ks) (max lo (0 + (bs.sum - ds.sum))) := c 0
  omega
/-- how the growing rounds are counted -/
theorem grw_props (h : CoM bs ds ks) : 0 ≤ grw bs ds ks ∧ fullOf bs ds ks ≤ firstOf bs ds ks + grw bs ds ks * gainOf bs ds ∨ gainOf bs ds = 0 ∧ grw bs ds ks = 0 := by
  have hg := h.gainb.1
  have hl := first_le h
  by_cases g0 : gainOf bs ds = 0
  · exact .inr ⟨g0, by unfold grw growing; rw [if_pos g0]⟩
  · left
    have gp : 0 < gainOf bs ds := by omega
    unfold grw growing
    rw [if_neg g0]
    have e := Int.ediv_mul_le (firstOf bs ds ks - fullOf bs ds ks) g0
    have q : (firstOf bs ds ks - fullOf bs ds ks) / gainOf bs ds ≤ 0 := by
      have := Int.ediv_le_ediv gp (show firstOf bs ds ks - fullOf bs ds ks ≤ 0 by omega)
      simpa using this
    rw [Int.neg_mul]
    omega
theorem grw_nn (h : CoM bs ds ks) : 0 ≤ grw bs ds ks := by
  rcases grw_props h with z | z <;> omega
theorem grw_end (h : CoM bs ds ks) : st bs ds ks (grw bs ds ks + 1) = st bs ds ks (grw bs ds ks + 2) := by
  have hn := grw_nn h
  rw [st_pos (by omega), st_pos (by omega)]
  rw [show grw bs ds ks + 1 - 1 = grw bs ds ks by omega, show grw bs ds ks + 2 - 1 = grw bs ds ks + 1 by omega, Int.add_mul, Int.one_mul]
  have hg := h.gainb.1
  rcases grw_props h with z | z
  · generalize grw bs ds ks * gainOf bs ds = t at z ⊢
    omega
  · rw [z.1]; simp
theorem set_ex (h : CoM bs ds ks) : ∃ i, SetAt bs ds ks (gainOf bs ds) (firstOf bs ds ks) (fullOf bs ds ks) i := by
  have hn := grw_nn h
  have e : stkAt bs ds ks (st bs ds ks (grw bs ds ks)) bs.length = stkAt bs ds ks (st bs ds ks (grw bs ds ks + 1)) bs.length := by
    rw [← st_step h hn, ← st_step h (by omega)]
    rw [show grw bs ds ks + 1 + 1 = grw bs ds ks + 2 by omega]
    exact grw_end h
  obtain ⟨m, a, b, c⟩ := least (p := fun i => stkAt bs ds ks (st bs ds ks (grw bs ds ks)) i = stkAt bs ds ks (st bs ds ks (grw bs ds ks + 1)) i) bs.length e
  exact ⟨m, a, b, c⟩
end
end Sw
namespace Sw
section
variable {bs ds ks : List Int}
/-! ### from the settled day on -/
theorem settled_same (h : CoM bs ds ks) {i : Nat} (hi : SetAt bs ds ks (gainOf bs ds) (firstOf bs ds ks) (fullOf bs ds ks) i) {t : Nat} (ht : grw bs ds ks * (bs.length : Int) + (i : Int) ≤ (t : Int)) :
    dayS bs ds ks t = dayS bs ds ks (t + bs.length) := by
  have hn := grw_nn h
  obtain ⟨R, hR⟩ : ∃ R : Nat, grw bs ds ks = (R : Int) := ⟨(grw bs ds ks).toNat, by omega⟩
  obtain ⟨a, b, c⟩ := hi
  change stkAt bs ds ks (st bs ds ks (grw bs ds ks)) i = stkAt bs ds ks (st bs ds ks (grw bs ds ks + 1)) i at b
  rw [hR] at b ht
  rw [← dayS_round h R i a, show ((R : Int) + 1) = ((R + 1 : Nat) : Int) by omega, ← dayS_round h (R + 1) i a, show (R + 1) * bs.length + i = R * bs.length + i + bs.length by rw [Nat.add_mul, Nat.one_mul]; omega] at b
  have e : (R : Int) * (bs.length : Int) = ((R * bs.length : Nat) : Int) := by rw [Int.natCast_mul]
  rw [e] at ht
  obtain ⟨u, rfl⟩ : ∃ u, t = R * bs.length + i + u := ⟨t - (R * bs.length + i), by omega⟩
  exact dayS_same b u
theorem settled_least (h : CoM bs ds ks) {i : Nat} (hi : SetAt bs ds ks (gainOf bs ds) (firstOf bs ds ks) (fullOf bs ds ks) i) {t : Nat} (ht : grw bs ds ks * (bs.length : Int) + (i : Int) = (t : Int) + 1) :
    dayS bs ds ks t ≠ dayS bs ds ks (t + bs.length) := by
  have hn := grw_nn h
  obtain ⟨R, hR⟩ : ∃ R : Nat, grw bs ds ks = (R : Int) := ⟨(grw bs ds ks).toNat, by omega⟩
  obtain ⟨a, b, c⟩ := hi
  change stkAt bs ds ks (st bs ds ks (grw bs ds ks)) i = stkAt bs ds ks (st bs ds ks (grw bs ds ks + 1)) i at b
  have e : (R : Int) * (bs.length : Int) = ((R * bs.length : Nat) : Int) := by rw [Int.natCast_mul]
  rw [hR, e] at ht
  cases i with
  | succ i =>
    have q := c i (Nat.lt_succ_self i)
    change stkAt bs ds ks (st bs ds ks (grw bs ds ks)) i ≠ stkAt bs ds ks (st bs ds ks (grw bs ds ks + 1)) i at q
    rw [hR, ← dayS_round h R i (by omega), show ((R : Int) + 1) = ((R + 1 : Nat) : Int) by omega, ← dayS_round h (R + 1) i (by omega), show (R + 1) * bs.length + i = R * bs.length + i + bs.length by rw [Nat.add_mul, Nat.one_mul]; omega] at q
    rwa [show t = R * bs.length + i by omega]
  | zero =>
    exfalso
    have b' : st bs ds ks (grw bs ds ks) = st bs ds ks (grw bs ds ks + 1) := b
    have hg := h.gainb.1
    have hl := first_le h
    have hR0 : R ≠ 0 := by
      intro z; subst z
      simp at ht; omega
    have g0 : ¬ gainOf bs ds = 0 := by
      intro z
      have : grw bs ds ks = 0 := by unfold grw growing; rw [if_pos z]
      omega
    have gp : 0 < gainOf bs ds := by omega
    rw [st_pos (by omega), st_pos (by omega), show grw bs ds ks + 1 - 1 = grw bs ds ks by omega, Int.sub_mul, Int.one_mul] at b'
    have ee : grw bs ds ks = -((firstOf bs ds ks - fullOf bs ds ks) / gainOf bs ds) := by unfold grw growing; rw [if_neg g0]
    have q1 := Int.lt_ediv_add_one_mul_self (firstOf bs ds ks - fullOf bs ds ks) gp
    have q2 : grw bs ds ks * gainOf bs ds = -((firstOf bs ds ks - fullOf bs ds ks) / gainOf bs ds * gainOf bs ds) := by rw [ee, Int.neg_mul]
    rw [Int.add_mul, Int.one_mul] at q1
    rcases grw_props h with z | z
    · generalize grw bs ds ks * gainOf bs ds = t1 at *
      generalize (firstOf bs ds ks - fullOf bs ds ks) / gainOf bs ds * gainOf bs ds = t2 at *
      omega
    · omega
/-! ### sums over days -/
def psum (f : Nat → Int) : Nat → Int
  | 0 => 0
  | t + 1 => psum f t + f t
theorem psum_add (f : Nat → Int) (a b : Nat) : psum f (a + b) = psum f a + psum (fun j => f (a + j)) b := by
  induction b with
  | zero => simp [psum]
  | succ b ih =>
    show psum f (a + b) + f (a + b) = _
    rw [ih]
    show _ = psum f a + (psum (fun j => f (a + j)) b + f (a + b))
    omega
theorem psum_congr {f g : Nat → Int} {n : Nat} (h : ∀ j, j < n → f j = g j) : psum f n = psum g n := by
  induction n with
  | zero => rfl
  | succ n ih =>
    show psum f n + f n = psum g n + g n
    rw [ih fun j hj => h j (by omega), h n (by omega)]
theorem psum_zero (n : Nat) : psum (fun _ => 0) n = 0 := by
  induction n with
  | zero => rfl
  | succ n ih => show psum _ n + 0 = 0; rw [ih]; rfl
theorem psum_sub (f g : Nat → Int) (n : Nat) : psum (fun j => f j - g j) n = psum f n - psum g n := by
  induction n with
  | zero => simp [psum]
  | succ n ih => show psum _ n + (f n - g n) = psum f n + f n - (psum g n + g n); rw [ih]; omega
theorem psum_take (xs : List Int) : ∀ n, (xs.take n).sum = psum (fun j => xs.getD j 0) n := by
  intro n
  induction n with
  | zero => simp [psum]
  | succ n ih => rw [sum_take_succ, ih]; rfl
theorem psum_sum (xs : List Int) : psum (fun j => xs.getD j 0) xs.length = xs.sum := by rw [← psum_take, List.take_length]
/-- a function that repeats after n, summed up over windows of n -/
theorem window {f : Nat → Int} {n a : Nat} (hf : ∀ t, a ≤ t → f (t + n) = f t) (u : Nat) : psum (fun j => f (a + u + j)) n = psum (fun j => f (a + j)) n := by
  induction u with
  | zero => rfl
  | succ u ih =>
    have e1 := psum_add (fun j => f (a + u + j)) 1 n
    have e2 := psum_add (fun j => f (a + u + j)) n 1
    rw [Nat.add_comm 1 n] at e1
    have e3 : psum (fun j => f (a + u + j)) 1 = f (a + u) := by show 0 + f (a + u + 0) = _; simp
    have e4 : psum (fun j => f (a + u + (n + j))) 1 = f (a + u + n) := by show 0 + f (a + u + (n + 0)) = _; simp
    have e5 : psum (fun j => f (a + u + (1 + j))) n = psum (fun j => f (a + (u + 1) + j)) n := psum_congr fun j _ => by congr 1; omega
    have e6 := hf (a + u) (by omega)
    rw [e3, e5] at e1
    rw [e4] at e2
    omega
theorem rounds_psum {f : Nat → Int} {n a : Nat} (hf : ∀ t, a ≤ t → f (t + n) = f t) (T : Nat) : psum f (a + T * n) = psum f a + (T : Int) * psum (fun j => f (a + j)) n := by
  induction T with
  | zero => simp
  | succ T ih =>
    rw [show a + (T + 1) * n = (a + T * n) + n by rw [Nat.add_mul, Nat.one_mul]; omega, psum_add, ih]
    have := window hf (T * n)
    rw [this]
    have : ((T + 1 : Nat) : Int) = (T : Int) + 1 := by omega
    rw [this, Int.add_mul, Int.one_mul]
    omega
theorem sumRep_psum (am : List Int) (h : 0 < am.length) (m : Nat) : sumRep am (m : Int) = psum (fun j => am.getD (j % am.length) 0) m := by
  obtain ⟨e1, e2⟩ := day_split m am.length h
  unfold sumRep
  rw [e1, e2]
  have hp : ∀ t, 0 ≤ t → (fun j => am.getD (j % am.length) 0) (t + am.length) = (fun j => am.getD (j % am.length) 0) t := fun t _ => by simp [Nat.add_mod_right]
  have z := rounds_psum (f := fun j => am.getD (j % am.length) 0) (n := am.length) (a := 0) hp (m / am.length)
  have e : m = (0 + m / am.length * am.length) + m % am.length := by have := Nat.div_add_mod m am.length; rw [Nat.mul_comm] at this; omega
  have w : psum (fun j => am.getD (j % am.length) 0) m = psum (fun j => am.getD (j % am.length) 0) (0 + m / am.length * am.length) + psum (fun j => (fun j => am.getD (j % am.length) 0) (0 + m / am.length * am.length + j)) (m % am.length) := by
    rw [← psum_add, ← e]
  rw [w, z]
  have q1 : psum (fun j => (fun j => am.getD (j % am.length) 0) (0 + j)) am.length = am.sum := by
    rw [← psum_sum]
    exact psum_congr fun j hj => by simp [Nat.mod_eq_of_lt hj]
  have q2 : psum (fun j => (fun j => am.getD (j % am.length) 0) (0 + m / am.length * am.length + j)) (m % am.length) = (am.take (m % am.length)).sum := by
    rw [psum_take]
    refine psum_congr fun j hj => ?_
    have hlt := Nat.mod_lt m h
    show am.getD ((0 + m / am.length * am.length + j) % am.length) 0 = _
    rw [Nat.zero_add, Nat.mul_comm, Nat.mul_add_mod, Nat.mod_eq_of_lt (by omega)]
  rw [q1, q2]
  show _ = 0 + _ + _
  omega
/-! ### a day's sales -/
def bk (bs : List Int) (t : Nat) : Int := bs.getD (t % bs.length) 0
def dm (bs ds : List Int) (t : Nat) : Int := ds.getD (t % bs.length) 0
def misS (bs ds ks : List Int) (t : Nat) : Int := max 0 (dm bs ds t - dayS bs ds ks t - bk bs t)
def solS (bs ds ks : List Int) (t : Nat) : Int := dm bs ds t - misS bs ds ks t
def thrS (bs ds ks : List Int) (t : Nat) : Int := bk bs t - solS bs ds ks t - (dayS bs ds ks (t + 1) - dayS bs ds ks t)
theorem sales_is (h : CoM bs ds ks) (t : Nat) : salesI bs ds ks (gainOf bs ds) (firstOf bs ds ks) (fullOf bs ds ks) (t : Int) = [solS bs ds ks t, misS bs ds ks t, thrS bs ds ks t] := by
  have hn := h.gd.n0
  obtain ⟨e1, e2⟩ := day_split t bs.length hn
  have es : soldI bs ds ks (gainOf bs ds) (firstOf bs ds ks) (fullOf bs ds ks) (t : Int) = solS bs ds ks t := by
    unfold soldI
    rw [stock_is h, e2]
    unfold solS misS dm bk
    omega
  unfold salesI
  rw [es, stock_is h, end_is h, e2]
  unfold thrS
  congr 1
  congr 1
  · unfold solS dm; omega
  · congr 1
    unfold bk
    omega
theorem misS_le (h : CoM bs ds ks) (t : Nat) : misS bs ds ks (t + bs.length) ≤ misS bs ds ks t := by
  have z := dayS_le h t
  unfold misS dm bk
  rw [Nat.add_mod_right]
  omega
/-- behind the first round each round misses the same -/
theorem misS_round (h : CoM bs ds ks) {t : Nat} (ht : bs.length ≤ t) : misS bs ds ks (t + bs.length) = misS bs ds ks t := by
  have z := misS_le h t
  have m0 : 0 ≤ misS bs ds ks (t + bs.length) := by unfold misS; omega
  by_cases hm : misS bs ds ks t ≤ 0
  · omega
  · obtain ⟨u, rfl⟩ : ∃ u, t = u + bs.length := ⟨t - bs.length, by omega⟩
    have e1 : dayS bs ds ks (u + bs.length + 1) = 0 := by
      show stp _ _ _ _ = 0
      have := h.kn ((u + bs.length) % bs.length)
      unfold misS dm bk at hm
      unfold stp
      omega
    have e2 := dayS_le h (u + 1)
    have e3 := dayS_nn h (u + 1)
    rw [show u + 1 + bs.length = u + bs.length + 1 by omega, e1] at e2
    have e4 : dayS bs ds ks (u + 1) = dayS bs ds ks (u + 1 + bs.length) := by rw [show u + 1 + bs.length = u + bs.length + 1 by omega, e1]; omega
    have hn := h.gd.n0
    have e5 := dayS_same e4 (bs.length - 1)
    rw [show u + 1 + (bs.length - 1) = u + bs.length by omega] at e5
    unfold misS dm bk
    rw [Nat.add_mod_right, ← e5]
theorem fm_get (h : CoM bs ds ks) {j : Nat} (hj : j < bs.length) : (fmOf bs ds ks).getD j 0 = misS bs ds ks j := by
  unfold fmOf missL
  have hl := h.gd.ld
  have e : ((List.range ds.length).map fun i => max 0 (ds.getD i 0 - (stkL bs ds ks (start1 (gainOf bs ds) (firstOf bs ds ks) (fullOf bs ds ks) 0)).getD i 0 - bs.getD i 0)).getD j 0 =
      max 0 (ds.getD j 0 - (stkL bs ds ks (start1 (gainOf bs ds) (firstOf bs ds ks) (fullOf bs ds ks) 0)).getD j 0 - bs.getD j 0) := by
    simp [List.getD, List.getElem?_range (show j < ds.length by omega)]
  rw [e, stkL_get (by omega)]
  have q := dayS_round h 0 j (by omega)
  rw [Nat.zero_mul, Nat.zero_add] at q
  have q' : stkAt bs ds ks (start1 (gainOf bs ds) (firstOf bs ds ks) (fullOf bs ds ks) 0) j = dayS bs ds ks j := q.symm
  rw [q']
  unfold misS dm bk
  rw [Nat.mod_eq_of_lt hj]
theorem lm_get (h : CoM bs ds ks) {j : Nat} (hj : j < bs.length) : (lmOf bs ds ks).getD j 0 = misS bs ds ks (bs.length + j) := by
  unfold lmOf missL
  have hl := h.gd.ld
  have e : ((List.range ds.length).map fun i => max 0 (ds.getD i 0 - (stkL bs ds ks (start1 (gainOf bs ds) (firstOf bs ds ks) (fullOf bs ds ks) 1)).getD i 0 - bs.getD i 0)).getD j 0 =
      max 0 (ds.getD j 0 - (stkL bs ds ks (start1 (gainOf bs ds) (firstOf bs ds ks) (fullOf bs ds ks) 1)).getD j 0 - bs.getD j 0) := by
    simp [List.getD, List.getElem?_range (show j < ds.length by omega)]
  rw [e, stkL_get (by omega)]
  have q := dayS_round h 1 j (by omega)
  rw [Nat.one_mul] at q
  have q' : stkAt bs ds ks (start1 (gainOf bs ds) (firstOf bs ds ks) (fullOf bs ds ks) 1) j = dayS bs ds ks (bs.length + j) := q.symm
  rw [q']
  unfold misS dm bk
  rw [Nat.add_mod_left, Nat.mod_eq_of_lt hj]
theorem fm_len (h : CoM bs ds ks) : (fmOf bs ds ks).length = bs.length := by unfold fmOf; rw [missL_len]; exact h.gd.ld
theorem lm_len (h : CoM bs ds ks) : (lmOf bs ds ks).length = bs.length := by unfold lmOf; rw [missL_len]; exact h.gd.ld
theorem lm_sum (h : CoM bs ds ks) : (lmOf bs ds ks).sum = psum (fun j => misS bs ds ks (bs.length + j)) bs.length := by
  rw [← psum_sum, lm_len h]
  exact psum_congr fun j hj => lm_get h hj
theorem missed_is (h : CoM bs ds ks) (t : Nat) : missedI bs (fmOf bs ds ks) (lmOf bs ds ks) (t : Int) = psum (misS bs ds ks) t := by
  have hn := h.gd.n0
  unfold missedI
  rw [Int.toNat_natCast, psum_take]
  by_cases ht : t ≤ bs.length
  · have e : max 0 ((t : Int) - (bs.length : Int)) = ((0 : Nat) : Int) := by omega
    rw [e, sumRep_psum _ (by rw [lm_len h]; exact hn)]
    show _ + 0 = _
    rw [Int.add_zero]
    exact psum_congr fun j hj => fm_get h (by omega)
  · obtain ⟨u, rfl⟩ : ∃ u, t = bs.length + u := ⟨t - bs.length, by omega⟩
    have e : max 0 (((bs.length + u : Nat) : Int) - (bs.length : Int)) = (u : Int) := by omega
    rw [e, sumRep_psum _ (by rw [lm_len h]; exact hn), psum_add, psum_add]
    have z1 : psum (fun j => (fmOf bs ds ks).getD j 0) bs.length = psum (misS bs ds ks) bs.length := psum_congr fun j hj => fm_get h hj
    have z2 : psum (fun j => (fmOf bs ds ks).getD (bs.length + j) 0) u = 0 := by
      have : psum (fun j => (fmOf bs ds ks).getD (bs.length + j) 0) u = psum (fun _ => 0) u := psum_congr fun j _ => by
        simp [List.getD, List.getElem?_eq_none (show (fmOf bs ds ks).length ≤ bs.length + j by rw [fm_len h]; omega)]
      rw [this, psum_zero]
    have z3 : psum (fun j => (lmOf bs ds ks).getD (j % (lmOf bs ds ks).length) 0) u = psum (fun j => misS bs ds ks (bs.length + j)) u := by
      refine psum_congr fun j _ => ?_
      rw [lm_len h, lm_get h (Nat.mod_lt _ hn)]
      have q : ∀ k r, misS bs ds ks (bs.length + (r + k * bs.length)) = misS bs ds ks (bs.length + r) := by
        intro k r
        induction k with
        | zero => simp
        | succ k ih =>
          rw [show bs.length + (r + (k + 1) * bs.length) = bs.length + (r + k * bs.length) + bs.length by rw [Nat.add_mul, Nat.one_mul]; omega, misS_round h (by omega), ih]
      have w := q (j / bs.length) (j % bs.length)
      rw [show j % bs.length + j / bs.length * bs.length = j by rw [Nat.mul_comm]; exact Nat.mod_add_div _ _] at w
      exact w.symm
    rw [z1, z2, z3]; omega
theorem bk_sum (h : CoM bs ds ks) (t : Nat) : sumRep bs (t : Int) = psum (bk bs) t := sumRep_psum bs h.gd.n0 t
theorem dm_sum (h : CoM bs ds ks) (t : Nat) : sumRep ds (t : Int) = psum (dm bs ds) t := by
  rw [sumRep_psum ds (by have := h.gd.n0; have := h.gd.ld; omega) t]
  exact psum_congr fun j _ => by unfold dm; rw [h.gd.ld]
theorem thr_sum (t : Nat) : psum (thrS bs ds ks) t = psum (bk bs) t - psum (solS bs ds ks) t - dayS bs ds ks t := by
  induction t with
  | zero => simp [psum, dayS]
  | succ t ih => show psum _ t + thrS bs ds ks t = (psum _ t + bk bs t) - (psum _ t + solS bs ds ks t) - _; rw [ih]; unfold thrS; omega
/-- totals are the sums of the days -/
theorem tot_is (h : CoM bs ds ks) (t : Nat) : totI bs ds ks (gainOf bs ds) (firstOf bs ds ks) (fullOf bs ds ks) (fmOf bs ds ks) (lmOf bs ds ks) (t : Int) =
    [psum (solS bs ds ks) t, psum (misS bs ds ks) t, psum (thrS bs ds ks) t] := by
  have e : psum (solS bs ds ks) t = psum (dm bs ds) t - psum (misS bs ds ks) t := psum_sub _ _ _
  unfold totI
  rw [missed_is h, dm_sum h, bk_sum h, stock_is h, thr_sum, e]
/-! ### the long run -/
theorem long_is (h : CoM bs ds ks) {D : Nat} (hD : ∀ t, D ≤ t → dayS bs ds ks t = dayS bs ds ks (t + bs.length)) :
    longI bs ds (lmOf bs ds ks) = [psum (fun j => solS bs ds ks (D + j)) bs.length, psum (fun j => misS bs ds ks (D + j)) bs.length, psum (fun j => thrS bs ds ks (D + j)) bs.length] := by
  have hmD : ∀ t, D ≤ t → misS bs ds ks (t + bs.length) = misS bs ds ks t := fun t ht => by
    unfold misS dm bk; rw [Nat.add_mod_right, ← hD t ht]
  have hmN : ∀ t, bs.length ≤ t → misS bs ds ks (t + bs.length) = misS bs ds ks t := fun t ht => misS_round h ht
  have m1 := window hmD bs.length
  have m2 := window hmN D
  rw [Nat.add_comm D] at m1
  have em : psum (fun j => misS bs ds ks (D + j)) bs.length = (lmOf bs ds ks).sum := by rw [lm_sum h, ← m1, ← m2]
  have hb : ∀ t, 0 ≤ t → bk bs (t + bs.length) = bk bs t := fun t _ => by unfold bk; rw [Nat.add_mod_right]
  have hd : ∀ t, 0 ≤ t → dm bs ds (t + bs.length) = dm bs ds t := fun t _ => by unfold dm; rw [Nat.add_mod_right]
  have b1 := window (n := bs.length) (a := 0) hb D
  have d1 := window (n := bs.length) (a := 0) hd D
  simp only [Nat.zero_add] at b1 d1
  have b2 : psum (fun j => bk bs j) bs.length = bs.sum := by rw [← psum_sum]; exact psum_congr fun j hj => by unfold bk; rw [Nat.mod_eq_of_lt hj]
  have d2 : psum (fun j => dm bs ds j) bs.length = ds.sum := by
    rw [← psum_sum, h.gd.ld]; exact psum_congr fun j hj => by unfold dm; rw [Nat.mod_eq_of_lt hj]
  have es : psum (fun j => solS bs ds ks (D + j)) bs.length = ds.sum - (lmOf bs ds ks).sum := by
    have : psum (fun j => solS bs ds ks (D + j)) bs.length = psum (fun j => dm bs ds (D + j)) bs.length - psum (fun j => misS bs ds ks (D + j)) bs.length := psum_sub _ _ _
    rw [this, em, d1, d2]
  have et : psum (fun j => thrS bs ds ks (D + j)) bs.length = bs.sum - (ds.sum - (lmOf bs ds ks).sum) := by
    have t1 := psum_add (thrS bs ds ks) D bs.length
    rw [thr_sum, thr_sum, psum_add, psum_add] at t1
    rw [← hD D (Nat.le_refl _), es, b1, b2] at t1
    omega
  unfold longI
  rw [em, es, et]
end
end Sw
namespace Sw
open PySem PySem.Spec PyProof.Rows L2 Evl
local macro_rules | `(tactic| walk_at "ev") => `(tactic| first
  | exact ev_c
  | exact ev_var rfl
  | ((with_reducible show Ev (tCB rMax2 _) _ _ _); exact ev_maxi (by walk_at "ev") (by walk_at "ev"))
  | ((with_reducible show Ev (tCB rMn _) _ _ _); exact ev_min2 (by walk_at "ev") (by walk_at "ev"))
  | ((with_reducible show Ev (tUn _ _) _ _ _); exact ev_un (by walk_at "ev") ru_neg)
  | ((with_reducible show Ev (tFld _ _ _) _ _ _); exact ev_fldK (by walk_at "ev") (by assumption))
  | ((with_reducible show Ev (tOp (rI0 _) _ _) _ _ _); exact ev_op (by walk_at "ev") (by walk_at "ev") rv_I0)
  | ((with_reducible show Ev (tOp rEq _ _) _ _ _); exact ev_op (by walk_at "ev") (by walk_at "ev") (rv_eq rfl))
  | ((with_reducible show Ev (tOp rNe _ _) _ _ _); exact ev_op (by walk_at "ev") (by walk_at "ev") (rv_ne rfl)))

section
variable {K : PySem.W.Frag} {σ : L2.St} {H H' : Hp} {ta tb te tx : TE} {x y z v : V} {a c : Addr} {xs : List V}
theorem ev_cval {C : Addr} {mc u : Value} {f : Str} (h : Ev ta σ H (.ref C)) (hc : ClX.CRead K C mc) (cv : ClX.CVal K C mc f v u) : Ev (ClX.tCVal K ta f) σ H v := fun H1 e Q q =>
  h H1 e _ fun H2 e2 => ⟨C, mc, v, u, rfl, hc, cv, q H2 e2⟩
def rTupS (K : PySem.W.Frag) : List V → Hp → VK → Prop := fun xs H Q => ∃ p ys, xs = [.ref p] ∧ ((SqL K H p ys ∧ ∀ l, H l = none → Q (.ref l) (upd H l (.tup ys))) ∨ (SqT K H p ys ∧ Q (.ref p) H))
theorem ev_tupT (h : Ev ta σ H (.ref a)) (hx : SqT K H a xs) : Ev (tCB (rTupS K) (tCons ta tNil)) σ H (.ref a) := fun H1 e Q q =>
  h H1 e _ fun H2 e2 => ⟨a, xs, rfl, .inr ⟨ex_t (e.trans e2) hx, q H2 e2⟩⟩
theorem eu_tupL (h : EvL ta σ H xs) : EvU (tCB (rTupS K) (tCons ta tNil)) σ H xs := fun H1 e Q q =>
  h H1 e _ fun p H2 _ e2 h2 => ⟨p, xs, rfl, .inl ⟨sq_of h2, fun l hl => q l _ (fresh_back e2 hl) (e2.trans (Ex.new hl)) upd_same⟩⟩
/-- what is handed back is some new object with P, seen apart from what M names -/
def EvR (te : TE) (σ : L2.St) (H : Hp) (M : Addr → Prop) (P : Addr → Hp → Prop) : Prop := ∀ H1, Ex H H1 → (∀ b, M b → H1 b ≠ none) → ∀ Q : VK, (∀ p H2, H1 p = none → Ex H1 H2 → P p (wn H2 M) → Q (.ref p) H2) → te σ H1 Q
end
theorem q_selfR {K : PySem.W.Frag} {σ : L2.St} {H : Hp} {ta te : TE} {a C dx : Addr} {fs : List (Str × V)} {f : Str} {D : Ends} {tz : TS} {M : Addr → Prop} {Pr : Addr → Hp → Prop} (ha : M a) (kn : ∀ b, M b → H b ≠ none) (h : EvR te σ H M Pr) (ho : ∀ H1, Ex H H1 → Ev ta σ H1 (.ref a)) (hx : H a = some (.ins C dx fs)) (c : Cls K C) (n : NoAttr K C f) (hl : fs.length < 1000)
    (hm : ∀ p H1 H2, Ex H1 H2 → Pr p H1 → Pr p H2)
    (k : ∀ (p : Addr) (S : Hp), Pr p (wn S M) → S a = some (.ins C dx (putF f (.ref p) fs)) → Go M a H S → tz D σ S) : tSeq (sFld K ta te f) tz D σ H :=
  h H (Ex.refl H) kn _ fun p H1 hp e1 hP => ho H1 e1 H1 (Ex.refl H1) _ fun H2 e2 => ⟨a, C, dx, fs, rfl, e2 _ _ (e1 _ _ hx), c, n, hl,
    k p _ (hm _ _ _ ((wn_mono e2).trans (wn_upd ha)) hP) upd_same (Go.up ha kn (e1.trans e2))⟩
/-! ### the checks, where nothing is wrong -/
variable {P : Program} {w : World} {K : PySem.W.Frag} {mg : Str → Option Value} {base : Heap} {Z : Ad}
def sp_num : Sp := fun vs H Q _ => ∃ n lo hi : Int, vs = [.int n, .int lo, .int hi] ∧ lo ≤ n ∧ n ≤ hi ∧ RetV .non H Q
theorem spv_num {H : Hp} {n lo hi : Int} (h1 : lo ≤ n) (h2 : n ≤ hi) : SpV sp_num [.int n, .int lo, .int hi] H .non := fun _ _ _ q _ => ⟨n, lo, hi, rfl, h1, h2, q⟩
theorem ok_check_number (T : Txt K mg Z) : FnOk P w K mg base CX0 1 Z.f_check_number Z.d_check_number p_check_number sp_num := by
  refine T.F_check_number.ok sc_check_number (fun vs H Q E h => ?_) (fun cdv Ar outer s H vs Q E hr h => ?_)
  · obtain ⟨n, lo, hi, rfl, _⟩ := h
    rfl
  · obtain ⟨n, lo, hi, rfl, h1, h2, k⟩ := h
    refine ⟨_, (pss_one (ps_if (PW.pt (pw_or (pt_cmpR op_lt (pv 0) (pv 1) (nomark _)) (pw_or1 (pt_cmpR op_gt (pv 0) (pv 2) (nomark _))))) (pss_one ps_no) pss_nil)), ?_⟩
    refine s_when (b := false) (et_is (et_or (et_test (by walk_at "ev")) fun _ => et_test (by walk_at "ev")) (by simp; omega)) (fun hb => nomatch hb) fun _ H1 e1 => k H1 e1
def sp_amounts (K : PySem.W.Frag) : Sp := fun vs H Q _ => ∃ (s : Str) (a : Addr) (am : List Int), vs = [.str s, .ref a] ∧ SqT K H a (am.map V.int) ∧ am.length ≤ 24 ∧ (∀ x ∈ am, 0 ≤ x ∧ x ≤ 1000000000) ∧ RetV .non H Q
theorem spv_amounts {H : Hp} {s : Str} {a : Addr} {am : List Int} (h : SqT K H a (am.map V.int)) (h1 : am.length ≤ 24) (h2 : ∀ x ∈ am, 0 ≤ x ∧ x ≤ 1000000000) : SpV (sp_amounts K) [.str s, .ref a] H .non := fun _ e _ q _ => ⟨s, a, am, rfl, ex_t e h, h1, h2, q⟩
theorem ok_check_amounts (T : Txt K mg Z) : FnOk P w K mg base CX0 1 Z.f_check_amounts Z.d_check_amounts p_check_amounts (sp_amounts K) := by
  refine T.F_check_amounts.ok sc_check_amounts (fun vs H Q E h => ?_) (fun cdv Ar outer s H vs Q E hr h => ?_)
  · obtain ⟨s, a, am, rfl, _⟩ := h
    rfl
  · obtain ⟨s, a, am, rfl, hS, hl, hb, k⟩ := h
    obtain ⟨cr, u, cv⟩ := T.cv_Bakery_MAX_DAYS
    refine ⟨_, (pss_one (ps_for PassesOwn.never rfl (pi_enumTK K rfl (by rfl) T.b_enumerate (pa_cons (pv 1) pa_nil)) (by exact (pg_tupK K (n := 2) rfl rfl (pgs_cons (pg_name (i := 2) sc_check_amounts.nd rfl (Or.inl rfl)) (pgs_cons (pg_name (i := 3) sc_check_amounts.nd rfl (Or.inl rfl)) pgs_nil)))) (pss_one (ps_if (PW.pt (pw_or (pt_cmpR op_eq (pv 2) (ClX.pe_cval (pe_glob (v := .ref Z.c_Bakery) (by rfl) T.g_Bakery rfl) rfl) (nomark _)) (pw_or (pt_cmpR op_lt (pv 3) pe_int (nomark _)) (pw_or1 (pt_cmpR op_gt (pv 3) (pe_glob (v := .int 1000000000) (by rfl) T.g_MOST_LOAVES ⟨_, rfl⟩) (nomark _)))))) (pss_one ps_no) pss_nil)))), ?_⟩
    refine s_forEnT (ea_cons (ev_var rfl) ea_nil) hS (fun i σ' H' => (∃ x y, σ' = [some (.str s), some (.ref a), x, y]) ∧ Ex H H') (fun H1 e1 => ⟨⟨_, _, rfl⟩, e1⟩) (fun i σ' H' _ p => p.2) ?_ ?_
    · rintro i x σ' H' hx ⟨⟨_, _, rfl⟩, e1⟩ H2 e2
      obtain ⟨rfl, hi⟩ := at_map hx
      have hb' := getD_mem0 (i := i) hb
      refine s_when (b := false) (et_is (et_or (et_test (ev_op (ev_var rfl) (ev_cval ev_c cr cv) (rv_eq rfl))) fun _ => et_or (et_test (by walk_at "ev")) fun _ => et_test (by walk_at "ev")) ?_) (fun hb => nomatch hb) fun _ H3 e3 => ⟨⟨_, _, rfl⟩, (e1.trans e2).trans e3⟩
      have q : ¬ (V.int (i : Nat) = V.int 24) := fun z => by injection z with z; omega
      generalize am.getD i 0 = v at hb'
      simp [q]; omega
    · rintro σ' H' ⟨⟨_, _, rfl⟩, e1⟩
      exact k H' e1
def sp_life1 : Sp := fun vs H Q _ => ∃ life : Int, vs = [.int life] ∧ 1 ≤ life ∧ life ≤ 30 ∧ RetV .non H Q
theorem spv_life {H : Hp} {life : Int} (l0 : 1 ≤ life) (l1 : life ≤ 30) : SpV sp_life1 [.int life] H .non := fun _ e _ q _ => ⟨life, rfl, l0, l1, q⟩
theorem ok_check_life (T : Txt K mg Z) : FnOk P w K mg base CX0 1 Z.f_check_life Z.d_check_life p_check_life sp_life1 := by
  refine T.F_check_life.ok sc_check_life (fun vs H Q E h => ?_) (fun cdv Ar outer s H vs Q E hr h => ?_)
  · obtain ⟨life, rfl, _⟩ := h
    rfl
  · obtain ⟨life, rfl, l0, l1, k⟩ := h
    obtain ⟨cr, u, cv⟩ := T.cv_Bakery_MAX_LIFE
    refine ⟨_, (pss_one (ps_if (PW.pt (pw_or (pt_cmpR op_lt (pv 0) pe_int (nomark _)) (pw_or1 (pt_cmpR op_gt (pv 0) (ClX.pe_cval (pe_glob (v := .ref Z.c_Bakery) (by rfl) T.g_Bakery rfl) rfl) (nomark _))))) (pss_one ps_no) pss_nil)), ?_⟩
    refine s_when (b := false) (et_is (et_or (et_test (by walk_at "ev")) fun _ => et_test (ev_op (ev_var rfl) (ev_cval ev_c cr cv) rv_I0)) (by simp; omega)) (fun hb => nomatch hb) fun _ H5 e5 => k H5 e5
def sp_check (K : PySem.W.Frag) : Sp := fun vs H Q _ => ∃ (a b : Addr) (bs ds : List Int) (life : Int), vs = [.ref a, .ref b, .int life] ∧ SqT K H a (bs.map V.int) ∧ SqT K H b (ds.map V.int) ∧ Good bs ds ∧ 1 ≤ life ∧ life ≤ 30 ∧ RetV .non H Q
theorem ok_check_bakery (T : Txt K mg Z) : FnOk P w K mg base CX0 2 Z.f_check_bakery Z.d_check_bakery p_check_bakery (sp_check K) := by
  refine T.F_check_bakery.ok sc_check_bakery (fun vs H Q E h => ?_) (fun cdv Ar outer s H vs Q E hr h => ?_)
  · obtain ⟨a, b, bs, ds, life, rfl, _⟩ := h
    rfl
  · obtain ⟨a, b, bs, ds, life, rfl, hB, hD, gd, l0, l1, k⟩ := h
    have h0 := gd.n0
    have hn := gd.n1
    have hld := gd.ld
    have e24 : ((bs.map V.int).length : Int) = (bs.length : Int) := by rw [List.length_map]
    have e24' : ((ds.map V.int).length : Int) = (ds.length : Int) := by rw [List.length_map]
    refine ⟨_, (pss_cons (ps_expr (pe_call (ok_check_amounts T) (hr.mono (by decide)) (by rfl) T.g_check_amounts T.F_check_amounts.kp T.b_check_amounts .nil pass0 (pa_cons pe_str (pa_cons (pv 0) pa_nil))))
      (pss_cons (ps_if (pt_cmpR op_eq (pe_callB (r := rLenS K) (call_len_seq) (by rfl) T.b_len boot_len (pa_cons (pv 0) pa_nil)) pe_int (nomark _)) (pss_one ps_no) pss_nil)
      (pss_cons (ps_expr (pe_call (ok_check_amounts T) (hr.mono (by decide)) (by rfl) T.g_check_amounts T.F_check_amounts.kp T.b_check_amounts .nil pass0 (pa_cons pe_str (pa_cons (pv 1) pa_nil))))
      (pss_cons (ps_if (pt_cmpR op_ne (pe_callB (r := rLenS K) (call_len_seq) (by rfl) T.b_len boot_len (pa_cons (pv 1) pa_nil)) (pe_callB (r := rLenS K) (call_len_seq) (by rfl) T.b_len boot_len (pa_cons (pv 0) pa_nil)) (nomark _)) (pss_one ps_no) pss_nil)
      (pss_one (ps_expr (pe_call (ok_check_life T) (hr.mono (by decide)) (by rfl) T.g_check_life T.F_check_life.kp T.b_check_life .nil pass0 (pa_cons (pv 2) pa_nil)))))))), ?_⟩
    refine q_drop (ev_call (ea_cons ev_c (ea_cons (ev_var rfl) ea_nil)) (spv_amounts hB (by omega) gd.b0)) fun H1 e1 => ?_
    refine q_when (b := false) (et_is (et_test (ev_op (Ev.int_eq (ev_lenT (ev_var rfl) (ex_t e1 hB)) e24) ev_c (rv_eq rfl))) ?_) (fun hb => nomatch hb) fun _ H2 e2 => ?_
    · have q : ¬ (V.int (bs.length : Int) = V.int 0) := fun z => by injection z with z; omega
      simp [q]
    refine q_drop (ev_call (ea_cons ev_c (ea_cons (ev_var rfl) ea_nil)) (spv_amounts (ex_t (e1.trans e2) hD) (by omega) gd.d0)) fun H3 e3 => ?_
    have eA := (e1.trans e2).trans e3
    refine q_when (b := false) (et_is (et_test (ev_op (Ev.int_eq (ev_lenT (ev_var rfl) (ex_t eA hD)) e24') (Ev.int_eq (ev_lenT (ev_var rfl) (ex_t eA hB)) e24) (rv_ne rfl))) ?_) (fun hb => nomatch hb) fun _ H4 e4 => ?_
    · have q : V.int (ds.length : Int) = V.int (bs.length : Int) := by rw [hld]
      simp [q]
    exact s_drop (ev_call (ea_cons (ev_var rfl) ea_nil) (spv_life l0 l1)) fun H5 e5 => k H5 ((eA.trans e4).trans e5)
/-! ### the bakery -/
def bakMeths : List Str := ["with_life", "baking_more", "stock", "sold", "missed", "thrown", "totals", "shelf", "MAX_LIFE"]
/-- a bakery -/
structure BakAt (K : PySem.W.Frag) (Z : Ad) (H : Hp) (b : Addr) (bs ds : List Int) (life : Int) (i : Nat) : Prop where
  fb : ∃ tb, FlK K H b Z.c_Bakery "_bakes" (.ref tb) ∧ SqT K H tb (bs.map V.int)
  fd : ∃ td, FlK K H b Z.c_Bakery "_demands" (.ref td) ∧ SqT K H td (ds.map V.int)
  fl : FlK K H b Z.c_Bakery "_life" (.int life)
  fc : ∃ c, FlK K H b Z.c_Bakery "course" (.ref c) ∧ CoAt K Z H c bs ds (keepL bs life)
  fs : FlK K H b Z.c_Bakery "_settled_day" (.int (grw bs ds (keepL bs life) * (bs.length : Int) + (i : Int)))
  fr : ∃ tl, FlK K H b Z.c_Bakery "_long_run" (.ref tl) ∧ SqT K H tl ((longI bs ds (lmOf bs ds (keepL bs life))).map V.int)
  gd : Good bs ds
  l0 : 1 ≤ life
  l1 : life ≤ 30
  hi : SetAt bs ds (keepL bs life) (gainOf bs ds) (firstOf bs ds (keepL bs life)) (fullOf bs ds (keepL bs life)) i
  nf : ∀ m : Str, m ∈ bakMeths → NoF H b Z.c_Bakery m
theorem BakAt.mono {H H' : Hp} {b : Addr} {bs ds : List Int} {life : Int} {i : Nat} (e : Ex H H') (h : BakAt K Z H b bs ds life i) : BakAt K Z H' b bs ds life i :=
  ⟨let ⟨a, x, y⟩ := h.fb; ⟨a, x.mono e, ex_t e y⟩, let ⟨a, x, y⟩ := h.fd; ⟨a, x.mono e, ex_t e y⟩, h.fl.mono e, let ⟨a, x, y⟩ := h.fc; ⟨a, x.mono e, CO.mono e y⟩, h.fs.mono e, let ⟨a, x, y⟩ := h.fr; ⟨a, x.mono e, ex_t e y⟩, h.gd, h.l0, h.l1, h.hi, fun m hm => (h.nf m hm).mono e⟩
theorem BakAt.com {H : Hp} {b : Addr} {bs ds : List Int} {life : Int} {i : Nat} (h : BakAt K Z H b bs ds life i) : CoM bs ds (keepL bs life) := ⟨h.gd, keepL_len, fun _ => keepL_nn h.gd.b0⟩
theorem BakAt.inst {H : Hp} {b : Addr} {bs ds : List Int} {life : Int} {i : Nat} (h : BakAt K Z H b bs ds life i) : ∃ dx fs, H b = some (.ins Z.c_Bakery dx fs) := let ⟨dx, fs, x, _⟩ := h.fl.fl; ⟨dx, fs, x⟩
/-- Course(..) -/
theorem er_course {σ : L2.St} {H : Hp} {M : Addr → Prop} {t : TA} {tb td : Addr} {bs ds : List Int} {life : Int} {E : XK} (ht : EvA t σ H [.ref tb, .ref td, .int life]) (hb : SqT K (wn H M) tb (bs.map V.int)) (hd : SqT K (wn H M) td (ds.map V.int)) (gd : Good bs ds) (l0 : 1 ≤ life) (l1 : life ≤ 30) :
    EvR (tMake Z.c_Course (sp_Cinit K Z) [] E t) σ H M (fun c H' => CoAt K Z H' c bs ds (keepL bs life)) := fun H1 e1 kn Q q => ht H1 e1 _ fun H2 e2 x dx hx hdx hne => by
  have eN : Ex H2 (upd (upd H2 dx (.own x)) x (.ins Z.c_Course dx [])) := fun b o hbo => by
    rw [upd_ne (ne_of_none hbo hx), upd_ne (ne_of_none hbo hdx)]; exact hbo
  have kn2 : ∀ b, M b → H2 b ≠ none := fun b hb z => kn b hb (fresh_back e2 z)
  refine ⟨x, dx, tb, td, bs, ds, life, M, rfl, upd_same, ex_t (wn_mono ((e1.trans e2).trans eN)) hb, ex_t (wn_mono ((e1.trans e2).trans eN)) hd, gd, l0, l1, fun b hb z => kn2 b hb (fresh_back eN z), fun z => kn2 x z hx, fun H3 hC k => ⟨rfl, ?_⟩⟩
  refine q x H3 (fresh_back e2 hx) (e2.trans fun b o hbo => k b o (eN b o hbo) (ne_of_none hbo hx)) hC
def sp_Binit (K : PySem.W.Frag) (Z : Ad) : Sp := fun vs H Q _ => ∃ (x dx tb td : Addr) (bs ds : List Int) (life : Int) (N : Addr → Prop), vs = [.ref x, .ref tb, .ref td, .int life] ∧ H x = some (.ins Z.c_Bakery dx []) ∧
  SqT K (wn H N) tb (bs.map V.int) ∧ SqT K (wn H N) td (ds.map V.int) ∧ Good bs ds ∧ 1 ≤ life ∧ life ≤ 30 ∧
  (∀ b, N b → H b ≠ none) ∧ ¬ N x ∧ ∀ H' i, BakAt K Z (wn H' N) x bs ds life i → (∀ b o, H b = some o → b ≠ x → H' b = some o) → Q .non H'
theorem er_bakery {σ : L2.St} {H : Hp} {M : Addr → Prop} {t : TA} {tb td : Addr} {bs ds : List Int} {life : Int} {E : XK} (ht : EvA t σ H [.ref tb, .ref td, .int life]) (hb : SqT K (wn H M) tb (bs.map V.int)) (hd : SqT K (wn H M) td (ds.map V.int)) (gd : Good bs ds) (l0 : 1 ≤ life) (l1 : life ≤ 30) :
    EvR (tMake Z.c_Bakery (sp_Binit K Z) [] E t) σ H M (fun c H' => ∃ i, BakAt K Z H' c bs ds life i) := fun H1 e1 kn Q q => ht H1 e1 _ fun H2 e2 x dx hx hdx hne => by
  have eN : Ex H2 (upd (upd H2 dx (.own x)) x (.ins Z.c_Bakery dx [])) := fun b o hbo => by
    rw [upd_ne (ne_of_none hbo hx), upd_ne (ne_of_none hbo hdx)]; exact hbo
  have kn2 : ∀ b, M b → H2 b ≠ none := fun b hb z => kn b hb (fresh_back e2 z)
  refine ⟨x, dx, tb, td, bs, ds, life, M, rfl, upd_same, ex_t (wn_mono ((e1.trans e2).trans eN)) hb, ex_t (wn_mono ((e1.trans e2).trans eN)) hd, gd, l0, l1, fun b hb z => kn2 b hb (fresh_back eN z), fun z => kn2 x z hx, fun H3 i hC k => ⟨rfl, ?_⟩⟩
  refine q x H3 (fresh_back e2 hx) (e2.trans fun b o hbo => k b o (eN b o hbo) (ne_of_none hbo hx)) ⟨i, hC⟩
theorem ok_Bakery___init__ (T : Txt K mg Z) : FnOk P w K mg base CX0 6 Z.f_Bakery___init__ Z.d_Bakery___init__ p_Bakery___init__ (sp_Binit K Z) := by
  refine T.F_Bakery___init__.ok sc_Bakery___init__ (fun vs H Q E h => ?_) (fun cdv Ar outer s H vs Q E hr h => ?_)
  · obtain ⟨x, dx, tb, td, bs, ds, life, N, rfl, _⟩ := h
    rfl
  · obtain ⟨x, dx, tb, td, bs, ds, life, N, rfl, hx, hb, hd, gd, l0, l1, hN, nNx, k⟩ := h
    have hM : nx x N x := .inl rfl
    have cl := T.cl_Bakery
    have cm : CoM bs ds (keepL bs life) := ⟨gd, keepL_len, fun _ => keepL_nn gd.b0⟩
    obtain ⟨i, hi⟩ := set_ex cm
    refine ⟨_, (pss_cons (ps_expr (pe_call (ok_check_bakery T) (hr.mono (by decide)) (by rfl) T.g_check_bakery T.F_check_bakery.kp T.b_check_bakery .nil pass0 (pa_cons (pv 1) (pa_cons (pv 2) (pa_cons (pv 3) pa_nil)))))
      (pss_cons (ps_fld (pv 0) (pe_callTy (r := rTupS K) (call_tuple_of) (by rfl) T.b_tuple boot_tuple (pa_cons (pv 1) pa_nil)) rfl)
      (pss_cons (ps_fld (pv 0) (pe_callTy (r := rTupS K) (call_tuple_of) (by rfl) T.b_tuple boot_tuple (pa_cons (pv 2) pa_nil)) rfl)
      (pss_cons (ps_fld (pv 0) (pv 3) rfl)
      (pss_cons (ps_fld (pv 0) (pe_make T.mk_Course (ok_Course___init__ T) (hr.mono (by decide)) (by rfl) T.g_Course T.b_Course___init__ .nil pass0 (pa_cons (pe_fldK K rfl (pv 0) rfl) (pa_cons (pe_fldK K rfl (pv 0) rfl) (pa_cons (pv 3) pa_nil)))) rfl)
      (pss_cons (ps_fld (pv 0) (pe_meth0 (pe_fldK K rfl (pv 0) rfl) T.cl_Course T.m_Course_find_settled (ok_Course_find_settled T) (hr.mono (by decide)) T.b_Course_find_settled .nil pass0) rfl)
      (pss_one (ps_fld (pv 0) (pe_meth0 (pe_fldK K rfl (pv 0) rfl) T.cl_Course T.m_Course_sum_settled_round (ok_Course_sum_settled_round T) (hr.mono (by decide)) T.b_Course_sum_settled_round .nil pass0) rfl)))))))), ?_⟩
    refine q_drop (ev_call (ea_cons (ev_var rfl) (ea_cons (ev_var rfl) (ea_cons (ev_var rfl) ea_nil))) (fun _ e _ q _ => ⟨tb, td, bs, ds, life, rfl, ex_t (wn_ex.trans e) hb, ex_t (wn_ex.trans e) hd, gd, l0, l1, q⟩)) fun H0 e0 => ?_
    have hbw : SqT K (wn H (nx x N)) tb (bs.map V.int) := wn_tx hx hb
    have hdw : SqT K (wn H (nx x N)) td (ds.map V.int) := wn_tx hx hd
    have w0 : Ex (wn H (nx x N)) (wn H0 (nx x N)) := wn_mono e0
    have kn0 : ∀ b, nx x N b → H0 b ≠ none := fun b z q => z.elim (fun e => by rw [e, e0 _ _ hx] at q; cases q) fun e => hN b e (fresh_back e0 q)
    refine q_self hM kn0 (ev_tupT (ev_var rfl) (ex_t (wn_ex.trans e0) hb)) (fun _ _ => ev_var rfl) (e0 _ _ hx) cl T.na_Bakery__bakes (by decide) fun S1 x1 g1 => ?_
    refine q_self hM g1.kn (ev_tupT (ev_var rfl) (ex_t ((w0.trans g1.ex).trans wn_ex) hdw)) (fun _ _ => ev_var rfl) x1 cl T.na_Bakery__demands (by show 1 < 1000; decide) fun S2 x2 g2 => ?_
    refine q_self hM g2.kn (ev_var rfl) (fun _ _ => ev_var rfl) x2 cl T.na_Bakery__life (by show 2 < 1000; decide) fun S3 x3 g3 => ?_
    have w03 := ((w0.trans g1.ex).trans g2.ex).trans g3.ex
    have fb3 := flk_of x3 cl T.na_Bakery__bakes (show _ = some (V.ref tb) from rfl)
    have fd3 := flk_of x3 cl T.na_Bakery__demands (show _ = some (V.ref td) from rfl)
    -- course
    refine q_selfR hM g3.kn (er_course (ea_cons (by walk_at "ev") (ea_cons (by walk_at "ev") (ea_cons (ev_var rfl) ea_nil))) (ex_t w03 hbw) (ex_t w03 hdw) gd l0 l1) (fun _ _ => ev_var rfl) x3 cl T.na_Bakery_course (by show 3 < 1000; decide)
      (fun p H1 H2 e hP => CO.mono e hP) fun c S4 c4 x4 g4 => ?_
    -- _settled_day
    have fc4 := flk_of x4 cl T.na_Bakery_course (show _ = some (V.ref c) from rfl)
    have fsr : ∀ {S : Hp}, CoAt K Z S c bs ds (keepL bs life) → SpV (sp_settled K Z) [.ref c] S (.int (grw bs ds (keepL bs life) * (bs.length : Int) + (i : Int))) := fun hC _ e _ q _ => by
      obtain ⟨tb', td', tk', s⟩ := hC.sr
      exact ⟨c, bs, ds, keepL bs life, tb', td', tk', _, _, _, i, rfl, ⟨s.mono e, (hC.nf _ (by decide)).mono e⟩, cm.gainb.1, hi, q⟩
    refine q_self hM g4.kn (ev_meth (by walk_at "ev") ((CO.mono wn_ex c4).nf _ (by decide)) ea_nil (fsr (CO.mono wn_ex c4))) (fun _ _ => ev_var rfl) x4 cl T.na_Bakery__settled_day (by show 4 < 1000; decide) fun S5 x5 g5 => ?_
    have fc5 := flk_of x5 cl T.na_Bakery_course (show _ = some (V.ref c) from rfl)
    have c5 : CoAt K Z (wn S5 (nx x N)) c bs ds (keepL bs life) := CO.mono g5.ex c4
    refine q_selfU hM g5.kn (xs := (longI bs ds (lmOf bs ds (keepL bs life))).map V.int) (eu_meth (by walk_at "ev") ((CO.mono wn_ex c5).nf _ (by decide)) ea_nil (fun _ e _ q _ => ⟨c, bs, ds, keepL bs life, _, _, _, _, _, rfl, CO.mono e (CO.mono wn_ex c5), q⟩)) (fun _ _ => ev_var rfl) x5 cl T.na_Bakery__long_run (by show 5 < 1000; decide) fun tl S6 hl6 x6 g6 => ?_
    have w06 := ((w03.trans g4.ex).trans g5.ex).trans g6.ex
    have sb : ∀ {S : Hp}, Ex (wn S (nx x N)) (wn S N) := wn_sub fun b z => .inr z
    have y6 : wn S6 N x = _ := (wn_ni nNx).trans x6
    refine k S6 i ⟨⟨tb, flk_of y6 cl T.na_Bakery__bakes rfl, ex_t (w06.trans sb) hbw⟩, ⟨td, flk_of y6 cl T.na_Bakery__demands rfl, ex_t (w06.trans sb) hdw⟩, flk_of y6 cl T.na_Bakery__life rfl, ⟨c, flk_of y6 cl T.na_Bakery_course rfl, CO.mono (g6.ex.trans sb) c5⟩,
      flk_of y6 cl T.na_Bakery__settled_day rfl, ⟨tl, flk_of y6 cl T.na_Bakery__long_run rfl, ex_t sb hl6⟩, gd, l0, l1, hi, ?_⟩ fun b o hbo hne => ?_
    · intro m hm
      refine ⟨_, _, y6, ?_⟩
      simp only [bakMeths, List.mem_cons, List.not_mem_nil, or_false] at hm
      rcases hm with rfl | rfl | rfl | rfl | rfl | rfl | rfl | rfl | rfl <;> rfl
    · exact g6.al b o (g5.al b o (g4.al b o (g3.al b o (g2.al b o (g1.al b o (e0 b o hbo) hne) hne) hne) hne) hne) hne
/-! ### a bakery's methods -/
theorem ev_prop {σ : L2.St} {H : Hp} {ta : TE} {C a : Addr} {sp : Sp} {E : XK} {z : V} (h : Ev ta σ H (.ref a)) (hi : ∃ dx fs, H a = some (.ins C dx fs)) (hs : SpV sp [.ref a] H z) : Ev (tProp C sp [] E ta) σ H z := fun H1 e Q q =>
  h H1 e _ fun H2 e2 => let ⟨dx, fs, h1⟩ := hi; ⟨a, dx, fs, rfl, e2 _ _ (e _ _ h1), hs H2 (e.trans e2) Q (fun H3 e3 => q H3 (e2.trans e3)) E⟩
def sp_Bset (K : PySem.W.Frag) (Z : Ad) : Sp := fun vs H Q _ => ∃ (b : Addr) (bs ds : List Int) (life : Int) (i : Nat), vs = [.ref b] ∧ BakAt K Z H b bs ds life i ∧ RetV (.int (grw bs ds (keepL bs life) * (bs.length : Int) + (i : Int))) H Q
def sp_Blong (K : PySem.W.Frag) (Z : Ad) : Sp := fun vs H Q _ => ∃ (b : Addr) (bs ds : List Int) (life : Int) (i : Nat), vs = [.ref b] ∧ BakAt K Z H b bs ds life i ∧ ∀ p H', Ex H H' → SqT K H' p ((longI bs ds (lmOf bs ds (keepL bs life))).map V.int) → Q (.ref p) H'
theorem ok_Bakery_long_run (T : Txt K mg Z) : FnOk P w K mg base CX0 1 Z.f_Bakery_long_run Z.d_Bakery_long_run p_Bakery_long_run (sp_Blong K Z) := by
  refine T.F_Bakery_long_run.ok sc_Bakery_long_run (fun vs H Q E h => ?_) (fun cdv Ar outer s H vs Q E hr h => ?_)
  · obtain ⟨b, bs, ds, life, i, rfl, _⟩ := h
    rfl
  · obtain ⟨b, bs, ds, life, i, rfl, hB, k⟩ := h
    obtain ⟨tl, fl, hl⟩ := hB.fr
    refine ⟨_, (pss_one (ps_ret (pe_fldK K rfl (pv 0) rfl))), ?_⟩
    exact s_ret (by walk_at "ev") fun H1 e1 => k tl H1 e1 (ex_t e1 hl)
def sp_Bstock (K : PySem.W.Frag) (Z : Ad) : Sp := fun vs H Q _ => ∃ (b : Addr) (bs ds : List Int) (life : Int) (i : Nat) (t : Nat), vs = [.ref b, .int (t : Int)] ∧ (t : Int) ≤ 1000000000000000000 ∧ BakAt K Z H b bs ds life i ∧ RetV (.int (dayS bs ds (keepL bs life) t)) H Q
def sp_Bday (K : PySem.W.Frag) (Z : Ad) (j : Nat) : Sp := fun vs H Q _ => ∃ (b : Addr) (bs ds : List Int) (life : Int) (i : Nat) (t : Nat), vs = [.ref b, .int (t : Int)] ∧ (t : Int) ≤ 1000000000000000000 ∧ BakAt K Z H b bs ds life i ∧ RetV (.int ([solS bs ds (keepL bs life) t, misS bs ds (keepL bs life) t, thrS bs ds (keepL bs life) t].getD j 0)) H Q
def totS (bs ds ks : List Int) (t : Nat) : List Int := [psum (solS bs ds ks) t, psum (misS bs ds ks) t, psum (thrS bs ds ks) t]
def sp_Btot (K : PySem.W.Frag) (Z : Ad) : Sp := fun vs H Q _ => ∃ (b : Addr) (bs ds : List Int) (life : Int) (i : Nat) (t : Nat), vs = [.ref b, .int (t : Int)] ∧ (t : Int) ≤ 1000000000000000000 ∧ BakAt K Z H b bs ds life i ∧ RetU ((totS bs ds (keepL bs life) t).map V.int) H Q
end Sw
namespace Sw
open PySem PySem.Spec PyProof.Rows L2 Evl
local macro_rules | `(tactic| walk_at "ev") => `(tactic| first
  | exact ev_c
  | exact ev_var rfl
  | ((with_reducible show Ev (tCB rMax2 _) _ _ _); exact ev_maxi (by walk_at "ev") (by walk_at "ev"))
  | ((with_reducible show Ev (tCB rMn _) _ _ _); exact ev_min2 (by walk_at "ev") (by walk_at "ev"))
  | ((with_reducible show Ev (tUn _ _) _ _ _); exact ev_un (by walk_at "ev") ru_neg)
  | ((with_reducible show Ev (tFld _ _ _) _ _ _); exact ev_fldK (by walk_at "ev") (by assumption))
  | ((with_reducible show Ev (tOp (rI0 _) _ _) _ _ _); exact ev_op (by walk_at "ev") (by walk_at "ev") rv_I0)
  | ((with_reducible show Ev (tOp rEq _ _) _ _ _); exact ev_op (by walk_at "ev") (by walk_at "ev") (rv_eq rfl))
  | ((with_reducible show Ev (tOp rNe _ _) _ _ _); exact ev_op (by walk_at "ev") (by walk_at "ev") (rv_ne rfl)))

/-! ### other lives and bakings, and the choices -/
section
variable {bs ds ks ks' : List Int}
theorem dayS_mono {m : Int} {bs' : List Int} (h : CoM bs ds ks) (hl : bs'.length = bs.length) (hm : 0 ≤ m) (hb : ∀ i, i < bs.length → bs'.getD i 0 = bs.getD i 0 + m) (hk : ∀ i, i < bs.length → ks.getD i 0 ≤ ks'.getD i 0) (t : Nat) : dayS bs ds ks t ≤ dayS bs' ds ks' t := by
  induction t with
  | zero => exact Int.le_refl _
  | succ t ih =>
    show stp _ _ _ _ ≤ stp _ _ _ _
    rw [hl]
    have hlt := Nat.mod_lt t h.gd.n0
    have q1 := hb _ hlt
    have q2 := hk _ hlt
    unfold stp; omega
theorem lm_mono {m : Int} {bs' : List Int} (h : CoM bs ds ks) (h' : CoM bs' ds ks') (hl : bs'.length = bs.length) (hm : 0 ≤ m) (hb : ∀ i, i < bs.length → bs'.getD i 0 = bs.getD i 0 + m) (hk : ∀ i, i < bs.length → ks.getD i 0 ≤ ks'.getD i 0) : (lmOf bs' ds ks').sum ≤ (lmOf bs ds ks).sum := by
  rw [lm_sum h, lm_sum h', hl]
  have hp : ∀ j, misS bs' ds ks' j ≤ misS bs ds ks j := fun j => by
    have z := dayS_mono h hl hm hb hk j
    have q := hb _ (Nat.mod_lt j h.gd.n0)
    unfold misS dm bk
    rw [hl]
    omega
  have g : ∀ n, psum (fun j => misS bs' ds ks' (bs.length + j)) n ≤ psum (fun j => misS bs ds ks (bs.length + j)) n := by
    intro n
    induction n with
    | zero => exact Int.le_refl _
    | succ n ih =>
      have z := hp (bs.length + n)
      exact Int.add_le_add ih z
  exact g bs.length
theorem keepAt_life {life life' : Int} {i : Nat} (hb : ∀ x ∈ bs, 0 ≤ x ∧ x ≤ 1000000000) (h : life ≤ life') : keepAt bs life i ≤ keepAt bs life' i := by
  unfold keepAt
  obtain ⟨u, hu⟩ : ∃ u, (life' - 1).toNat = (life - 1).toNat + u := ⟨(life' - 1).toNat - (life - 1).toNat, by omega⟩
  rw [hu]
  generalize (life - 1).toNat = n
  clear hu
  induction u with
  | zero => exact Int.le_refl _
  | succ u ih =>
    rw [← Nat.add_assoc, List.range_succ, List.map_append, List.sum_append]
    have z := (getD_mem0 (i := ((((i : Int) - ((n + u : Nat) : Int)) % (bs.length : Int)).toNat)) hb).1
    simp at z ih ⊢
    omega
theorem keepL_get {life : Int} {i : Nat} (hi : i < bs.length) : (keepL bs life).getD i 0 = keepAt bs life i := by
  unfold keepL
  simp [List.getD, List.getElem?_range hi]
theorem map_getD {m : Int} {i : Nat} (hi : i < bs.length) : (bs.map (· + m)).getD i 0 = bs.getD i 0 + m := by simp [List.getD, hi]
theorem keepAt_more {life m : Int} {i : Nat} (h0 : 0 < bs.length) (hm : 0 ≤ m) : keepAt bs life i ≤ keepAt (bs.map (· + m)) life i := by
  unfold keepAt
  rw [List.length_map]
  generalize (life - 1).toNat = n
  induction n with
  | zero => exact Int.le_refl _
  | succ n ih =>
    rw [List.range_succ, List.map_append, List.sum_append, List.map_append, List.sum_append]
    have hlt : (((i : Int) - (n : Int)) % (bs.length : Int)).toNat < bs.length := by
      have := Int.emod_lt_of_pos ((i : Int) - (n : Int)) (show (0 : Int) < (bs.length : Int) by omega)
      have := Int.emod_nonneg ((i : Int) - (n : Int)) (show (bs.length : Int) ≠ 0 by omega)
      omega
    have z := map_getD (m := m) hlt
    have e1 : (List.map (fun (age : Nat) => bs.getD (((i : Int) - (age : Int)) % (bs.length : Int)).toNat 0) [n]).sum = bs.getD (((i : Int) - (n : Int)) % (bs.length : Int)).toNat 0 := by simp
    have e2 : (List.map (fun (age : Nat) => (bs.map (· + m)).getD (((i : Int) - (age : Int)) % (bs.length : Int)).toNat 0) [n]).sum = (bs.map (· + m)).getD (((i : Int) - (n : Int)) % (bs.length : Int)).toNat 0 := by simp
    rw [e1, e2, z]
    omega
/-- how many are missed per round in the long run -/
def missOf (bs ds : List Int) (life : Int) : Int := (lmOf bs ds (keepL bs life)).sum
theorem com_of (gd : Good bs ds) {life : Int} : CoM bs ds (keepL bs life) := ⟨gd, keepL_len, fun _ => keepL_nn gd.b0⟩
theorem missOf_life (gd : Good bs ds) {life life' : Int} (h : life ≤ life') : missOf bs ds life' ≤ missOf bs ds life :=
  lm_mono (m := 0) (com_of gd) (com_of gd) rfl (Int.le_refl _) (fun i _ => by omega) fun i hi => by rw [keepL_get hi, keepL_get hi]; exact keepAt_life gd.b0 h
theorem missOf_more (gd : Good bs ds) {m : Int} (hm : 0 ≤ m) (gd' : Good (bs.map (· + m)) ds) {life : Int} : missOf (bs.map (· + m)) ds life ≤ missOf bs ds life :=
  lm_mono (m := m) (com_of gd) (com_of gd') (List.length_map ..) hm (fun i hi => map_getD hi) fun i hi => by
    rw [keepL_get hi, keepL_get (by rw [List.length_map]; exact hi)]; exact keepAt_more gd.n0 hm
theorem more_more {m m' : Int} : (bs.map (· + m)).map (· + (m' - m)) = bs.map (· + m') := by
  rw [List.map_map]
  congr 1
  funext x
  show x + m + (m' - m) = x + m'
  omega
theorem missOf_anti {m m' : Int} (h : m ≤ m') (gd : Good (bs.map (· + m)) ds) (gd' : Good (bs.map (· + m')) ds) {life : Int} : missOf (bs.map (· + m')) ds life ≤ missOf (bs.map (· + m)) ds life := by
  have z := missOf_more gd (m := m' - m) (by omega) (by rw [more_more]; exact gd') (life := life)
  rwa [more_more] at z
theorem good_more (gd : Good bs ds) {m top : Int} (h0 : 0 ≤ m) (ht : ∀ x ∈ bs, x ≤ top) (h1 : m ≤ 1000000000 - top) : Good (bs.map (· + m)) ds :=
  ⟨by rw [List.length_map]; exact gd.n0, by rw [List.length_map]; exact gd.n1, by rw [List.length_map]; exact gd.ld, fun x hx => by
    obtain ⟨y, hy, rfl⟩ := List.mem_map.mp hx
    have := gd.b0 y hy
    have := ht y hy
    omega, gd.d0⟩
end
section
variable {K : PySem.W.Frag} {Z : Ad} {σ : L2.St} {H H' : Hp} {ta tb te tx : TE} {x y z v : V} {a b : Addr} {bs ds : List Int} {life : Int} {i : Nat}
/-- what is handed back is an object with P -/
def EvO (te : TE) (σ : L2.St) (H : Hp) (P : Addr → Hp → Prop) : Prop := ∀ H1, Ex H H1 → ∀ Q : VK, (∀ p H2, Ex H1 H2 → P p H2 → Q (.ref p) H2) → te σ H1 Q
def IsBak (K : PySem.W.Frag) (Z : Ad) (bs ds : List Int) (life : Int) (p : Addr) (H : Hp) : Prop := ∃ i, BakAt K Z H p bs ds life i
theorem ew_longO {E : XK} (h : EvO ta σ H (IsBak K Z bs ds life)) : EvW K (tProp Z.c_Bakery (sp_Blong K Z) [] E ta) σ H ((longI bs ds (lmOf bs ds (keepL bs life))).map V.int) := fun H1 e Q q =>
  h H1 e _ fun p H2 e2 ⟨i, hB⟩ => let ⟨dx, fs, h1⟩ := hB.inst; ⟨p, dx, fs, rfl, h1, p, bs, ds, life, i, rfl, hB, fun r H3 e3 h3 => q r H3 (e2.trans e3) h3⟩
theorem ev_missO {E : XK} (h : EvO ta σ H (IsBak K Z bs ds life)) (hb : Ev tb σ H (.int 1)) : Ev (tOp (rIxT K) (tProp Z.c_Bakery (sp_Blong K Z) [] E ta) tb) σ H (.int (missOf bs ds life)) := fun H1 e Q q =>
  ew_longO h H1 e _ fun p H2 e2 hp => hb H2 (e.trans e2) _ fun H3 e3 => rv_ixT (K := K) (v := .int (missOf bs ds life)) (ex_t e3 hp) rfl H3 (Ex.refl H3) Q fun H4 e4 => q H4 ((e2.trans e3).trans e4)
theorem eo_meth {sp : Sp} {C : Addr} {m : Str} {dvs vs : List V} {E : XK} {t : TA} {Pr : Addr → Hp → Prop} (h : Ev ta σ H (.ref a)) (nf : NoF H a C m) (hv : EvA t σ H vs) (hs : ∀ H1, Ex H H1 → ∀ Q : VK, (∀ p H2, Ex H1 H2 → Pr p H2 → Q (.ref p) H2) → ∀ E : XK, sp (.ref a :: (vs ++ dvs)) H1 Q E) : EvO (tMeth C m sp dvs E ta t) σ H Pr := fun H1 e Q q =>
  h H1 e _ fun H2 e2 => let ⟨dx, fs, h1, h2⟩ := nf; ⟨a, dx, fs, rfl, e2 _ _ (e _ _ h1), h2, hv H2 (e.trans e2) _ fun H3 e3 => hs H3 ((e.trans e2).trans e3) Q (fun p H4 e4 h4 => q p H4 ((e2.trans e3).trans e4) h4) E⟩
theorem ev_con {C : Addr} {f : Str} {v : V} {u : Value} (h : Ev ta σ H (.ref a)) (nf : NoF H a C f) (c : Cls K C) (k : Con K C f v u) : Ev (tCon K ta f) σ H v := fun H1 e Q q =>
  h H1 e _ fun H2 e2 => let ⟨dx, fs, h1, h2⟩ := nf; ⟨a, C, dx, fs, v, u, rfl, e2 _ _ (e _ _ h1), c, k, h2, q H2 e2⟩
end
theorem wn_no {H : Hp} : wn H (fun _ => False) = H := by funext b; exact wn_ni fun z => z
/-- return Bakery(tuple([bake + m for bake in ..]), .., ..) -/
theorem q_more {K : PySem.W.Frag} {Z : Ad} {σ : L2.St} {H : Hp} {tl te tdd tll : TE} {tb td : Addr} {jj : Nat} {vs : List Nat} {E : XK} {bs ds : List Int} {life m : Int} {Q : VK} {nx : L2.St → Hp → Prop} (hl : Ev tl σ H (.ref tb)) (hb : SqT K H tb (bs.map V.int)) (hn : bs.length ≤ 24) (hw : ∀ x, wipe ((wipe σ vs).set jj (some x)) vs = wipe σ vs)
    (he : ∀ (i : Nat) (x : V) H1, Ex H H1 → (bs.map V.int)[i]? = some x → Ev te ((wipe σ vs).set jj (some x)) H1 (.int (bs.getD i 0 + m))) (hd : ∀ G, Ex H G → Ev tdd σ G (.ref td)) (hds : SqT K H td (ds.map V.int)) (hll : ∀ G, Ex H G → Ev tll σ G (.int life)) (gd : Good (bs.map (· + m)) ds) (l0 : 1 ≤ life) (l1 : life ≤ 30)
    (k : ∀ p H', Ex H H' → IsBak K Z (bs.map (· + m)) ds life p H' → Q (.ref p) H') :
    tRet (tMake Z.c_Bakery (sp_Binit K Z) [] E (tCons (tCB (rTupS K) (tCons (tLc (iTup K tl) (gName jj) tYes te vs) tNil)) (tCons tdd (tCons tll tNil)))) { nx := nx, rt := Q } σ H := by
  have hL : EvL (tLc (iTup K tl) (gName jj) tYes te vs) σ H ((bs.map (· + m)).map V.int) := fun H0 e0 Q' q => hl H0 e0 _ fun H1 e1 => ⟨tb, rfl, ⟨bs.map V.int, ex_t (e0.trans e1) hb⟩, fun Dl hD => by
    have eq0 : (bs.map (· + m)).map V.int = given bs.length (fun _ => true) (fun i => .int (bs.getD i 0 + m)) := by
      rw [given_all]
      apply List.ext_getElem
      · simp
      · intro i h1 h2
        simp at h1
        simp [List.getD, h1]
    rw [eq0] at q
    refine lc_it (walk_tup (xs := bs.map V.int)) (Cw H1 (fun _ => true) (fun i => .int (bs.getD i 0 + m)) Dl) ⟨hD, Ex.new hD, upd_same⟩ (fun i H' _ p => ex_t ((e0.trans e1).trans p.2.1) hb) (fun i w H' H2 hi p y => ?_) (fun H' p => q Dl H' (fresh_back e1 p.1) (e1.trans p.2.1) (by rw [← List.length_map (f := V.int)]; exact p.2.2))
    obtain ⟨rfl, hx⟩ := y
    refine ⟨hw _, ?_⟩
    rw [List.length_map] at hi
    exact cw_turn p (by omega) et_yes (fun _ => he i w H1 (e0.trans e1) hx)⟩
  dsimp only [tRet, tMake, tCons, tNil]
  refine eu_tupL (K := K) hL H (Ex.refl _) _ fun p H1 hp e1 h1 => hd H1 e1 H1 (Ex.refl _) _ fun H2 e2 => hll H2 (e1.trans e2) H2 (Ex.refl _) _ fun H3 e3 => ?_
  have e13 := (e1.trans e2).trans e3
  have hX := er_bakery (K := K) (Z := Z) (M := fun _ => False) (H := H3) (σ := [some (.ref p), some (.ref td), some (.int life)]) (E := E) (t := tCons (tVar 0) (tCons (tVar 1) (tCons (tVar 2) tNil))) (bs := bs.map (· + m)) (ds := ds) (ea_cons (ev_var rfl) (ea_cons (ev_var rfl) (ea_cons (ev_var rfl) ea_nil))) (by rw [wn_no]; exact st_of (e3 _ _ (e2 _ _ h1))) (by rw [wn_no]; exact ex_t e13 hds) gd l0 l1
  have z := hX H3 (Ex.refl _) (fun _ z => z.elim) Q fun p H4 _ e4 hP => k p H4 (e13.trans e4) (by rw [wn_no] at hP; exact hP)
  dsimp only [tMake, tCons, tNil] at z
  obtain ⟨v1, r1, v2, r2, v3, r3, z⟩ := z
  cases r1; cases r2; cases r3
  exact z
variable {P : Program} {w : World} {K : PySem.W.Frag} {mg : Str → Option Value} {base : Heap} {Z : Ad}
def sp_Bbakes (K : PySem.W.Frag) (Z : Ad) : Sp := fun vs H Q _ => ∃ (b : Addr) (bs ds : List Int) (life : Int) (i : Nat), vs = [.ref b] ∧ BakAt K Z H b bs ds life i ∧ ∀ p H', Ex H H' → SqT K H' p (bs.map V.int) → Q (.ref p) H'
theorem ok_Bakery_bakes (T : Txt K mg Z) : FnOk P w K mg base CX0 1 Z.f_Bakery_bakes Z.d_Bakery_bakes p_Bakery_bakes (sp_Bbakes K Z) := by
  refine T.F_Bakery_bakes.ok sc_Bakery_bakes (fun vs H Q E h => ?_) (fun cdv Ar outer s H vs Q E hr h => ?_)
  · obtain ⟨b, bs, ds, life, i, rfl, _⟩ := h
    rfl
  · obtain ⟨b, bs, ds, life, i, rfl, hB, k⟩ := h
    obtain ⟨tl, fl, hl⟩ := hB.fb
    refine ⟨_, (pss_one (ps_ret (pe_fldK K rfl (pv 0) rfl))), ?_⟩
    exact s_ret (by walk_at "ev") fun H1 e1 => k tl H1 e1 (ex_t e1 hl)
def sp_withlife (K : PySem.W.Frag) (Z : Ad) : Sp := fun vs H Q _ => ∃ (b : Addr) (bs ds : List Int) (life life' : Int) (i : Nat), vs = [.ref b, .int life'] ∧ BakAt K Z H b bs ds life i ∧ 1 ≤ life' ∧ life' ≤ 30 ∧ ∀ p H', Ex H H' → IsBak K Z bs ds life' p H' → Q (.ref p) H'
def sp_more (K : PySem.W.Frag) (Z : Ad) : Sp := fun vs H Q _ => ∃ (b : Addr) (bs ds : List Int) (life m : Int) (i : Nat), vs = [.ref b, .int m] ∧ BakAt K Z H b bs ds life i ∧ Good (bs.map (· + m)) ds ∧ ∀ p H', Ex H H' → IsBak K Z (bs.map (· + m)) ds life p H' → Q (.ref p) H'
theorem ok_Bakery_baking_more (T : Txt K mg Z) : FnOk P w K mg base CX0 8 Z.f_Bakery_baking_more Z.d_Bakery_baking_more p_Bakery_baking_more (sp_more K Z) := by
  refine T.F_Bakery_baking_more.ok sc_Bakery_baking_more (fun vs H Q E h => ?_) (fun cdv Ar outer s H vs Q E hr h => ?_)
  · obtain ⟨b, bs, ds, life, m, i, rfl, _⟩ := h
    rfl
  · obtain ⟨b, bs, ds, life, m, i, rfl, hB, gd, k⟩ := h
    obtain ⟨tb, fb, hb⟩ := hB.fb
    have hn := hB.gd.n1
    obtain ⟨td, fd, hd⟩ := hB.fd
    have fl := hB.fl
    refine ⟨_, (pss_one (ps_ret (pe_make T.mk_Bakery (ok_Bakery___init__ T) (hr.mono (by decide)) (by rfl) T.g_Bakery T.b_Bakery___init__ .nil pass0 (pa_cons (pe_callTy (r := rTupS K) (call_tuple_of) (by rfl) T.b_tuple boot_tuple (pa_cons (pe_lc (own := [("bake", 2)]) rfl sc_Bakery_baking_more.nd (pi_tupK K rfl (pe_fldK K rfl (pv 0) rfl)) (blkOk_by (own := [("bake", 2)]) (N := n_Bakery_baking_more) (sc := defScope s_Bakery_baking_more) (scope := { kind := PySem.ScopeKind.function, names := [ (PySem.Str.ofString ".0", PySem.NameKind.local), (PySem.Str.ofString "bake", PySem.NameKind.local), (PySem.Str.ofString "count", PySem.NameKind.free)], isGenerator := false, isCoroutine := false, more := [] : PySem.Scope }) (by decide +kernel)) (fun _ _ _ _ _ => (pg_name (i := 2) sc_Bakery_baking_more.nd rfl (Or.inl rfl))) (fun _ _ _ _ _ => pts_nil) (fun _ _ _ _ _ => (pe_op op_add (pv 2) (pv 1)))) pa_nil)) (pa_cons (pe_fldK K rfl (pv 0) rfl) (pa_cons (pe_fldK K rfl (pv 0) rfl) pa_nil)))))), ?_⟩
    refine q_more (bs := bs) (ds := ds) (life := life) (m := m) (tb := tb) (ev_fldK (ev_var rfl) fb) hb hn (fun _ => rfl) (fun j x G e hx => ?_) (fun G e => ev_fldK (ev_var rfl) (fd.mono e)) hd (fun G e => ev_fldK (ev_var rfl) (fl.mono e)) gd hB.l0 hB.l1 k
    obtain ⟨rfl, hj⟩ := at_map hx
    exact ev_is (ev_op (ev_var rfl) (ev_var rfl) rv_I0) rfl
end Sw
namespace Sw
open PySem PySem.Spec PyProof.Rows L2 Evl
local macro_rules | `(tactic| walk_at "ev") => `(tactic| first
  | exact ev_c
  | exact ev_var rfl
  | ((with_reducible show Ev (tCB rMax2 _) _ _ _); exact ev_maxi (by walk_at "ev") (by walk_at "ev"))
  | ((with_reducible show Ev (tCB rMn _) _ _ _); exact ev_min2 (by walk_at "ev") (by walk_at "ev"))
  | ((with_reducible show Ev (tUn _ _) _ _ _); exact ev_un (by walk_at "ev") ru_neg)
  | ((with_reducible show Ev (tFld _ _ _) _ _ _); exact ev_fldK (by walk_at "ev") (by assumption))
  | ((with_reducible show Ev (tOp (rI0 _) _ _) _ _ _); exact ev_op (by walk_at "ev") (by walk_at "ev") rv_I0)
  | ((with_reducible show Ev (tOp rEq _ _) _ _ _); exact ev_op (by walk_at "ev") (by walk_at "ev") (rv_eq rfl))
  | ((with_reducible show Ev (tOp rNe _ _) _ _ _); exact ev_op (by walk_at "ev") (by walk_at "ev") (rv_ne rfl)))

/-! ### the law's draws: a list of the script, a position, a seed, a rest -/
def HS (H : Hp) (h l : Addr) : Prop := ∃ pos m rest : Int, H h = some (.lst [.ref l, .int pos, .int m, .int rest]) ∧ 0 ≤ pos ∧ 0 ≤ m ∧ m < 2147483647 ∧ 0 ≤ rest
def hl (h _l : Addr) : Addr → Prop := fun b => b = h
theorem HS.mono {H H' : Hp} {h l : Addr} (e : Ex H H') (q : HS H h l) : HS H' h l :=
  let ⟨p, m, r, h1, z⟩ := q; ⟨p, m, r, e _ _ h1, z⟩
theorem HS.kn {H : Hp} {h l : Addr} (q : HS H h l) : ∀ b, hl h l b → H b ≠ none := by
  obtain ⟨_, _, _, h1, _⟩ := q
  rintro b rfl z
  rw [h1] at z; cases z
/-- a draw may change h, and makes what it likes -/
structure Dr (h l : Addr) (H H' : Hp) : Prop where
  hs : HS H' h l
  ex : Ex (wn H (hl h l)) (wn H' (hl h l))
theorem Dr.trans {h l : Addr} {H H1 H2 : Hp} (a : Dr h l H H1) (b : Dr h l H1 H2) : Dr h l H H2 := ⟨b.hs, a.ex.trans b.ex⟩
theorem Dr.refl {h l : Addr} {H : Hp} (q : HS H h l) : Dr h l H H := ⟨q, Ex.refl _⟩
theorem Dr.of {h l : Addr} {H H' : Hp} (q : HS H h l) (e : Ex H H') : Dr h l H H' := ⟨q.mono e, wn_mono e⟩
def sp_drawn (K : PySem.W.Frag) : Sp := fun vs H Q _ => ∃ (h l : Addr) (cells : List Int) (count : Int), vs = [.ref h, .int count] ∧ 0 < count ∧ count ≤ 1000000000000000000 ∧ HS H h l ∧ SqL K (wn H (hl h l)) l (cells.map V.int) ∧ ∀ v H', 0 ≤ v → v < count → Dr h l H H' → Q (.int v) H'
section
variable {K : PySem.W.Frag} {σ : L2.St} {H H' : Hp} {ta tb te tx : TE} {x y z v : V} {a h l : Addr} {xs ys : List V}
theorem el_cat (ha : Ev ta σ H (.ref a)) (hx : H a = some (.lst xs)) (hb : EvL tb σ H ys) (hz : xs.length + ys.length ≤ 100000) : EvL (tOp rCat ta tb) σ H (xs ++ ys) := fun H1 e Q q =>
  ha H1 e _ fun H2 e2 => hb H2 (e.trans e2) _ fun p H3 _ e3 hp => ⟨a, p, xs, ys, rfl, rfl, e3 _ _ (e2 _ _ (e _ _ hx)), hp, sz_of hz, fun r hr => q r _ (fresh_back (e2.trans e3) hr) ((e2.trans e3).trans (Ex.new hr)) upd_same⟩
theorem Dr.upd {o : HO} (hN : hl h l a) (q : HS (L2.upd H a o) h l) : Dr h l H (L2.upd H a o) := ⟨q, wn_upd hN⟩
end
variable {P : Program} {w : World} {K : PySem.W.Frag} {mg : Str → Option Value} {base : Heap} {Z : Ad}
def sp_start (K : PySem.W.Frag) : Sp := fun vs H Q _ => ∃ (a : Addr) (ns : List Int), vs = [.ref a] ∧ SqL K H a (ns.map V.int) ∧ ns.length ≤ 63 ∧ ∀ h H', H h = none → Ex H H' → HS H' h a → Q (.ref h) H'
theorem ok__law_start (T : Txt K mg Z) : FnOk P w K mg base CX0 1 Z.f__law_start Z.d__law_start p__law_start (sp_start K) := by
  refine T.F__law_start.ok sc__law_start (fun vs H Q E h => ?_) (fun cdv Ar outer s H vs Q E hr h => ?_)
  · obtain ⟨a, ns, rfl, _⟩ := h
    rfl
  · obtain ⟨a, ns, rfl, hS, hn, k⟩ := h
    refine ⟨_, (pss_cons (ps_set (i := 1) sc__law_start.nd rfl (Or.inl rfl) pe_int)
      (pss_cons (ps_for PassesOwn.never rfl (pi_listK K rfl (pv 0)) (pg_name (i := 2) sc__law_start.nd rfl (Or.inl rfl)) (pss_one (ps_set (i := 1) sc__law_start.nd rfl (Or.inl rfl) (pe_op op_mod (pe_op op_add (pe_op op_add (pe_op op_mul (pv 1) pe_int) (pv 2)) pe_int) pe_int))))
      (pss_one (ps_ret (pe_lst (pa_cons (pv 0) (pa_cons pe_int (pa_cons (pv 1) (pa_cons pe_int pa_nil))))))))), ?_⟩
    refine q_asg ev_c fun H1 e1 => ?_
    refine q_forLn (ev_var rfl) (ex_l e1 hS) (fun i σ' H' => (∃ m x, σ' = [some (.ref a), some (.int m), x] ∧ 0 ≤ m ∧ m < 2147483647) ∧ Ex H H') (fun H2 e2 => ⟨⟨1, _, rfl, by decide, by decide⟩, e1.trans e2⟩) (fun i σ' H' _ p => ex_l p.2 hS) ?_ ?_
    · rintro i x σ' H' hx ⟨⟨m, _, rfl, m0, m1⟩, e2⟩
      obtain ⟨rfl, hi⟩ := at_map hx
      refine s_asg (ev_op (ev_op (ev_op (ev_op (ev_var rfl) ev_c (rv_I (wide_ok (by decide)))) (ev_var rfl) rv_I0) ev_c rv_I0) ev_c (rv_I (by show (0 : Int) < 2147483647; decide))) fun H2 e3 => ?_
      exact ⟨⟨_, _, rfl, Int.emod_nonneg _ (by decide), Int.emod_lt_of_pos _ (by decide)⟩, e2.trans e3⟩
    · rintro σ' H' ⟨⟨m, _, rfl, m0, m1⟩, e2⟩
      refine ⟨_, rfl, _, rfl, by show 4 ≤ sizeLine; decide, fun r hr => k r _ (fresh_back e2 hr) (e2.trans (Ex.new hr)) ⟨0, m, 0, upd_same, by decide, m0, m1, by decide⟩⟩
theorem ok__law_drawn (T : Txt K mg Z) : FnOk P w K mg base CX0 1 Z.f__law_drawn Z.d__law_drawn p__law_drawn (sp_drawn K) := by
  refine T.F__law_drawn.ok sc__law_drawn (fun vs H Q E h => ?_) (fun cdv Ar outer s H vs Q E hr h => ?_)
  · obtain ⟨a, l, cells, count, rfl, _⟩ := h
    rfl
  · obtain ⟨a, l, cells, count, rfl, p0, p1, hs, hS, k⟩ := h
    obtain ⟨pos, m, rest, h1, q0, m0, m1, r0⟩ := id hs
    have ix0 : ∀ {σ : L2.St} {G : Hp} {te : TE} {p' m' r' : Int}, Ev te σ G (.ref a) → G a = some (.lst [.ref l, .int p', .int m', .int r']) → Ev (tOp (rIxL K) te (tC (.int 0))) σ G (.ref l) := fun he hg => ev_ixL he (sq_of hg) ev_c rfl
    have ix1 : ∀ {σ : L2.St} {G : Hp} {te : TE} {p' m' r' : Int}, Ev te σ G (.ref a) → G a = some (.lst [.ref l, .int p', .int m', .int r']) → Ev (tOp (rIxL K) te (tC (.int 1))) σ G (.int p') := fun he hg => ev_ixL he (sq_of hg) ev_c rfl
    have ix2 : ∀ {σ : L2.St} {G : Hp} {te : TE} {p' m' r' : Int}, Ev te σ G (.ref a) → G a = some (.lst [.ref l, .int p', .int m', .int r']) → Ev (tOp (rIxL K) te (tC (.int 2))) σ G (.int m') := fun he hg => ev_ixL he (sq_of hg) ev_c rfl
    have ix3 : ∀ {σ : L2.St} {G : Hp} {te : TE} {p' m' r' : Int}, Ev te σ G (.ref a) → G a = some (.lst [.ref l, .int p', .int m', .int r']) → Ev (tOp (rIxL K) te (tC (.int 3))) σ G (.int r') := fun he hg => ev_ixL he (sq_of hg) ev_c rfl
    have p10 : (10 : Int) ^ (18 : Int).toNat = 1000000000000000000 := by decide
    have hlen : (((cells.map V.int).length : Nat) : Int) = (cells.length : Int) := by rw [List.length_map]
    refine ⟨_, (pss_cons (ps_if (pt_cmpR op_gt (pe_ix (r := rIxL K) ix_list (pv 0) pe_int (fun _ _ => rfl)) pe_int (nomark _)) (pss_cons (ps_set (i := 2) sc__law_drawn.nd rfl (Or.inl rfl) (pe_op op_mod (pe_ix (r := rIxL K) ix_list (pv 0) pe_int (fun _ _ => rfl)) (pv 1)))
      (pss_cons (ps_asg (pe_op op_fdivW (pe_ix (r := rIxL K) ix_list (pv 0) pe_int (fun _ _ => rfl)) (pv 1)) (pg_sub (pv 0) pe_int set_list))
      (pss_one (ps_ret (pv 2))))) pss_nil)
      (pss_cons (ps_asg (pe_op op_add (pe_ix (r := rIxL K) ix_list (pv 0) pe_int (fun _ _ => rfl)) pe_int) (pg_sub (pv 0) pe_int set_list))
      (pss_cons (ps_if (pt_cmpR op_le (pe_ix (r := rIxL K) ix_list (pv 0) pe_int (fun _ _ => rfl)) (pe_callB (r := rLenS K) (call_len_seq) (by rfl) T.b_len boot_len (pa_cons (pe_ix (r := rIxL K) ix_list (pv 0) pe_int (fun _ _ => rfl)) pa_nil)) (nomark _)) (pss_cons (ps_set (i := 3) sc__law_drawn.nd rfl (Or.inl rfl) (pe_ix (r := rIxL K) ix_list (pe_ix (r := rIxL K) ix_list (pv 0) pe_int (fun _ _ => rfl)) (pe_op op_sub (pe_ix (r := rIxL K) ix_list (pv 0) pe_int (fun _ _ => rfl)) pe_int) (fun _ _ => rfl)))
      (pss_cons (ps_asg (pe_ifExp (pt_cmpR op_ge (pv 3) (pe_op op_pow pe_int pe_int) (nomark _)) (pe_op op_fdivW (pv 3) (pv 1)) pe_int) (pg_sub (pv 0) pe_int set_list))
      (pss_one (ps_ret (pe_op op_mod (pv 3) (pv 1)))))) pss_nil)
      (pss_cons (ps_asg (pe_op op_mod (pe_op op_add (pe_op op_mul (pe_ix (r := rIxL K) ix_list (pv 0) pe_int (fun _ _ => rfl)) pe_int) pe_int) pe_int) (pg_sub (pv 0) pe_int set_list))
      (pss_one (ps_ret (pe_op op_mod (pe_op op_fdivW (pe_ix (r := rIxL K) ix_list (pv 0) pe_int (fun _ _ => rfl)) pe_int) (pv 1)))))))), ?_⟩
    refine q_when (b := decide ((0 : Int) < rest)) (et_test (ev_is (ev_op (ix3 (ev_var rfl) h1) ev_c rv_I0) rfl)) (fun hb H1 e1 => ?_) (fun hb H1 e1 => ?_)
    · have a1 := e1 _ _ h1
      refine q_asg (v := .int (rest % count)) (ev_op (ix3 (ev_var rfl) a1) (ev_var rfl) (rv_I p0)) fun H2 e2 => ?_
      have a2 := e2 _ _ a1
      refine q_setL (j := 3) (v := .int (rest / count)) a2 (ev_op (ix3 (ev_var rfl) a2) (ev_var rfl) (rv_I (wide_div (b := 60) p0 (by omega) (by decide) (by decide)))) (ev_var rfl) ev_c (by show 3 < 4; decide) fun H3 e3 => ?_
      have d1 : (upd H3 a (.lst (([.ref l, .int pos, .int m, .int rest] : List V).set 3 (.int (rest / count))))) a = some (.lst [.ref l, .int pos, .int m, .int (rest / count)]) := upd_same
      have q3 : HS (upd H3 a (.lst (([.ref l, .int pos, .int m, .int rest] : List V).set 3 (.int (rest / count))))) a l := ⟨_, _, _, d1, q0, m0, m1, Int.ediv_nonneg r0 (by omega)⟩
      refine s_ret (ev_var rfl) fun H4 e4 => ?_
      exact k _ _ (Int.emod_nonneg _ (by omega)) (Int.emod_lt_of_pos _ p0) (((Dr.of hs ((e1.trans e2).trans e3)).trans (Dr.upd rfl q3)).trans (Dr.of q3 e4))
    · have a1 := e1 _ _ h1
      refine q_setL (j := 1) (v := .int (pos + 1)) a1 (ev_op (ix1 (ev_var rfl) a1) ev_c rv_I0) (ev_var rfl) ev_c (by show 1 < 4; decide) fun H2 e2 => ?_
      have d1 : (upd H2 a (.lst (([.ref l, .int pos, .int m, .int rest] : List V).set 1 (.int (pos + 1))))) a = some (.lst [.ref l, .int (pos + 1), .int m, .int rest]) := upd_same
      have q3 : HS (upd H2 a (.lst (([.ref l, .int pos, .int m, .int rest] : List V).set 1 (.int (pos + 1))))) a l := ⟨_, _, _, d1, by omega, m0, m1, r0⟩
      have D3 := (Dr.of hs (e1.trans e2)).trans (Dr.upd rfl q3)
      generalize upd H2 a (.lst (([.ref l, .int pos, .int m, .int rest] : List V).set 1 (.int (pos + 1)))) = S3 at d1 q3 D3 ⊢
      have hS3 : SqL K S3 l (cells.map V.int) := ex_l (D3.ex.trans wn_ex) hS
      refine q_when (b := decide (pos + 1 ≤ (cells.length : Int))) (et_test (ev_is (ev_op (ix1 (ev_var rfl) d1) (Ev.int_eq (ev_len (ix0 (ev_var rfl) d1) hS3) hlen) rv_I0) rfl)) (fun hb2 H4 e4 => ?_) (fun hb2 H4 e4 => ?_)
      · have hp : pos + 1 ≤ (cells.length : Int) := by simpa using hb2
        have d4 := e4 _ _ d1
        refine q_asg (v := .int (cells.getD pos.toNat 0)) (ev_ixL (ix0 (ev_var rfl) d4) (ex_l e4 hS3) (Ev.int_eq (i := pos + 1 - 1) (ev_op (ix1 (ev_var rfl) d4) ev_c rv_I0) (by omega)) (atI_mapI q0 (by omega))) fun H5 e5 => ?_
        generalize cells.getD pos.toNat 0 = cell
        have d5 := e5 _ _ d4
        refine q_setL (j := 3) (v := .int (if (1000000000000000000 : Int) ≤ cell then cell / count else 0)) d5 ?_ (ev_var rfl) ev_c (by show 3 < 4; decide) fun H6 e6 => ?_
        · by_cases hc : (1000000000000000000 : Int) ≤ cell
          · rw [if_pos hc]
            exact ev_if (b := true) (et_is (et_test (ev_op (ev_var rfl) (Ev.int_eq (ev_op ev_c ev_c (rv_I ⟨by decide, by decide, by decide⟩)) p10) rv_I0)) (by simpa using hc)) (fun _ => ev_op (ev_var rfl) (ev_var rfl) (rv_I (wide_div (b := 60) p0 (by omega) (by decide) (by decide)))) (fun z => nomatch z)
          · rw [if_neg hc]
            exact ev_if (b := false) (et_is (et_test (ev_op (ev_var rfl) (Ev.int_eq (ev_op ev_c ev_c (rv_I ⟨by decide, by decide, by decide⟩)) p10) rv_I0)) (by simpa using hc)) (fun z => nomatch z) (fun _ => ev_c)
        have r6 : 0 ≤ (if (1000000000000000000 : Int) ≤ cell then cell / count else 0) := by
          split
          · exact Int.ediv_nonneg (by omega) (by omega)
          · decide
        generalize (if (1000000000000000000 : Int) ≤ cell then cell / count else 0) = rest' at r6 ⊢
        have d6 : (upd H6 a (.lst (([.ref l, .int (pos + 1), .int m, .int rest] : List V).set 3 (.int rest')))) a = some (.lst [.ref l, .int (pos + 1), .int m, .int rest']) := upd_same
        have q6 : HS (upd H6 a (.lst (([.ref l, .int (pos + 1), .int m, .int rest] : List V).set 3 (.int rest')))) a l := ⟨_, _, _, d6, by omega, m0, m1, r6⟩
        refine s_ret (ev_op (ev_var rfl) (ev_var rfl) (rv_I p0)) fun H7 e7 => ?_
        exact k _ _ (Int.emod_nonneg _ (by omega)) (Int.emod_lt_of_pos _ p0) (((D3.trans (Dr.of q3 ((e4.trans e5).trans e6))).trans (Dr.upd rfl q6)).trans (Dr.of q6 e7))
      · have d4 := e4 _ _ d1
        have n0 : 0 ≤ (m * 48271 + 11) % 2147483647 := Int.emod_nonneg _ (by omega)
        have n1 : (m * 48271 + 11) % 2147483647 < 2147483647 := Int.emod_lt_of_pos _ (by omega)
        refine q_setL (j := 2) (v := .int ((m * 48271 + 11) % 2147483647)) d4 (ev_op (ev_op (ev_op (ix2 (ev_var rfl) d4) ev_c (rv_I (wide_ok (by decide)))) ev_c rv_I0) ev_c (rv_I (by show (0 : Int) < 2147483647; decide))) (ev_var rfl) ev_c (by show 2 < 4; decide) fun H6 e6 => ?_
        generalize (m * 48271 + 11) % 2147483647 = m' at n0 n1 ⊢
        have d6 : (upd H6 a (.lst (([.ref l, .int (pos + 1), .int m, .int rest] : List V).set 2 (.int m')))) a = some (.lst [.ref l, .int (pos + 1), .int m', .int rest]) := upd_same
        have q6 : HS (upd H6 a (.lst (([.ref l, .int (pos + 1), .int m, .int rest] : List V).set 2 (.int m')))) a l := ⟨_, _, _, d6, by omega, n0, n1, r0⟩
        refine s_ret (ev_op (ev_op (ix2 (ev_var rfl) d6) ev_c (rv_I (wide_div (b := 3) (by decide) (by decide) (by decide) (by decide)))) (ev_var rfl) (rv_I p0)) fun H7 e7 => ?_
        exact k _ _ (Int.emod_nonneg _ (by omega)) (Int.emod_lt_of_pos _ p0) (((D3.trans (Dr.of q3 (e4.trans e6))).trans (Dr.upd rfl q6)).trans (Dr.of q6 e7))
end Sw
namespace Sw
open PySem PySem.Spec PyProof.Rows L2 Evl
local macro_rules | `(tactic| walk_at "ev") => `(tactic| first
  | exact ev_c
  | exact ev_var rfl
  | ((with_reducible show Ev (tCB rMax2 _) _ _ _); exact ev_maxi (by walk_at "ev") (by walk_at "ev"))
  | ((with_reducible show Ev (tCB rMn _) _ _ _); exact ev_min2 (by walk_at "ev") (by walk_at "ev"))
  | ((with_reducible show Ev (tUn _ _) _ _ _); exact ev_un (by walk_at "ev") ru_neg)
  | ((with_reducible show Ev (tFld _ _ _) _ _ _); exact ev_fldK (by walk_at "ev") (by assumption))
  | ((with_reducible show Ev (tOp (rI0 _) _ _) _ _ _); exact ev_op (by walk_at "ev") (by walk_at "ev") rv_I0)
  | ((with_reducible show Ev (tOp rEq _ _) _ _ _); exact ev_op (by walk_at "ev") (by walk_at "ev") (rv_eq rfl))
  | ((with_reducible show Ev (tOp rNe _ _) _ _ _); exact ev_op (by walk_at "ev") (by walk_at "ev") (rv_ne rfl)))

/-! ### evaluating while cells are drawn -/
def EvX (te : TE) (σ : L2.St) (H : Hp) (h l : Addr) (P : V → Hp → Prop) : Prop := ∀ H1, Dr h l H H1 → ∀ Q : VK, (∀ v H2, Dr h l H1 H2 → P v (wn H2 (hl h l)) → Q v H2) → te σ H1 Q
def EvI (te : TE) (σ : L2.St) (H : Hp) (h l : Addr) (A : Int → Prop) : Prop := EvX te σ H h l fun v _ => ∃ i, v = .int i ∧ A i
def EvXT (t : TT) (σ : L2.St) (H : Hp) (h l : Addr) : Prop := ∀ H1, Dr h l H H1 → ∀ Q : Bool → Hp → Prop, (∀ b H2, Dr h l H1 H2 → Q b H2) → t σ H1 Q
/-- a list, a tuple of numbers -/
def LI (A : List Int → Prop) : V → Hp → Prop := fun v G => ∃ p ns, v = .ref p ∧ G p = some (.lst (ns.map V.int)) ∧ A ns
def TI' (A : List Int → Prop) : V → Hp → Prop := fun v G => ∃ p ns, v = .ref p ∧ G p = some (.tup (ns.map V.int)) ∧ A ns
section
variable {K : PySem.W.Frag} {σ : L2.St} {H H' : Hp} {ta tb tc te tx : TE} {x y z v : V} {a h l : Addr} {xs ys : List V} {A B C D : Int → Prop} {i j : Int}
theorem hl_kind {G : Hp} {p : Addr} {o : HO} (q : HS G h l) (hp : G p = some o) (ho : ∀ ys, o ≠ .lst ys) : ¬ hl h l p := by
  obtain ⟨_, _, _, h1, _⟩ := q
  rintro rfl
  rw [h1] at hp; exact ho _ (Option.some.inj hp).symm
theorem hl_new {G G' : Hp} {p : Addr} (q : HS G h l) (hp : G p = none) : ¬ hl h l p := fun z => q.kn p z hp
theorem x_ev (hv : Ev te σ (wn H (hl h l)) v) : EvX te σ H h l (fun u _ => u = v) := fun H1 d Q q => hv H1 (d.ex.trans wn_ex) Q fun H2 e2 => q v H2 (Dr.of d.hs e2) rfl
theorem xi_ev (hv : Ev te σ (wn H (hl h l)) (.int i)) (ha : A i) : EvI te σ H h l A := fun H1 d Q q => hv H1 (d.ex.trans wn_ex) Q fun H2 e2 => q _ H2 (Dr.of d.hs e2) ⟨i, rfl, ha⟩
theorem x_evU (hv : EvU te σ (wn H (hl h l)) xs) : EvX te σ H h l (fun u G => ∃ p, u = .ref p ∧ G p = some (.tup xs)) := fun H1 d Q q =>
  hv H1 (d.ex.trans wn_ex) Q fun p H2 hp e2 h2 => q _ H2 (Dr.of d.hs e2) ⟨p, rfl, by rw [wn_ni (hl_new (G' := H2) d.hs hp)]; exact h2⟩
theorem x_evL (hv : EvL te σ (wn H (hl h l)) xs) : EvX te σ H h l (fun u G => ∃ p, u = .ref p ∧ G p = some (.lst xs)) := fun H1 d Q q =>
  hv H1 (d.ex.trans wn_ex) Q fun p H2 hp e2 h2 => q _ H2 (Dr.of d.hs e2) ⟨p, rfl, by rw [wn_ni (hl_new (G' := H2) d.hs hp)]; exact h2⟩
theorem x_evW (hv : EvW K te σ (wn H (hl h l)) xs) : EvX te σ H h l (fun u G => ∃ p, u = .ref p ∧ SqT K G p xs) := fun H1 d Q q =>
  hv H1 (d.ex.trans wn_ex) Q fun p H2 e2 h2 => q _ H2 (Dr.of d.hs e2) ⟨p, rfl, by
    have q2 := d.hs.mono e2
    rcases h2 with (z | ⟨u, z⟩) | z
    · exact .inl (.inl (by rw [wn_ni (hl_kind q2 z (fun _ q => nomatch q))]; exact z))
    · exact .inl (.inr ⟨u, by rw [wn_ni (hl_kind q2 z (fun _ q => nomatch q))]; exact z⟩)
    · exact .inr z⟩
theorem x_evR {Pr : Addr → Hp → Prop} (hv : EvR te σ (wn H (hl h l)) (hl h l) Pr) : EvX te σ H h l (fun u G => ∃ p, u = .ref p ∧ Pr p G) := fun H1 d Q q =>
  hv H1 (d.ex.trans wn_ex) d.hs.kn Q fun p H2 _ e2 hP => q _ H2 (Dr.of d.hs e2) ⟨p, rfl, hP⟩
theorem EvX.imp {P P' : V → Hp → Prop} (hv : EvX te σ H h l P) (f : ∀ v G, P v G → P' v G) : EvX te σ H h l P' := fun H1 d Q q => hv H1 d Q fun v H2 d2 p => q v H2 d2 (f _ _ p)
theorem EvX.from {P : V → Hp → Prop} (d : Dr h l H H') (hv : EvX te σ H h l P) : EvX te σ H' h l P := fun H1 d1 Q q => hv H1 (d.trans d1) Q q
theorem EvI.imp (hv : EvI te σ H h l A) (f : ∀ i, A i → B i) : EvI te σ H h l B := fun H1 d Q q => hv H1 d Q fun v H2 d2 ⟨i, e, p⟩ => q v H2 d2 ⟨i, e, f i p⟩
theorem xi_op0 {g : Int → Int → Int} (ha : EvI ta σ H h l A) (hb : EvI tb σ H h l B) (hc : ∀ i j, A i → B j → D (g i j)) : EvI (tOp (rI0 fun i j => .int (g i j)) ta tb) σ H h l D := fun H1 d Q q =>
  ha H1 d _ fun _ H2 d2 ⟨i, e, hi⟩ => hb H2 (d.trans d2) _ fun _ H3 d3 ⟨j, e', hj⟩ => ⟨i, j, e, e', q _ H3 (d2.trans d3) ⟨_, rfl, hc i j hi hj⟩⟩
theorem xi_op {R : Int → Int → Prop} {g : Int → Int → Int} (ha : EvI ta σ H h l A) (hb : EvI tb σ H h l B) (hc : ∀ i j, A i → B j → R i j ∧ D (g i j)) : EvI (tOp (rI R fun i j => .int (g i j)) ta tb) σ H h l D := fun H1 d Q q =>
  ha H1 d _ fun _ H2 d2 ⟨i, e, hi⟩ => hb H2 (d.trans d2) _ fun _ H3 d3 ⟨j, e', hj⟩ => ⟨i, j, e, e', (hc i j hi hj).1, q _ H3 (d2.trans d3) ⟨_, rfl, (hc i j hi hj).2⟩⟩
theorem xi_drawn {E : XK} {cells : List Int} (hS : SqL K (wn H (hl h l)) l (cells.map V.int)) (ha : ∀ G, Ev ta σ G (.ref h)) (hb : EvI tb σ H h l A) (hA : ∀ i, A i → 0 < i ∧ i ≤ 1000000000000000000) : EvI (tCall (sp_drawn K) [] E (tCons ta (tCons tb tNil))) σ H h l (fun v => 0 ≤ v ∧ ∃ i, A i ∧ v < i) := fun H1 d Q q =>
  ha H1 H1 (Ex.refl _) _ fun H2 e2 => hb H2 (d.trans (Dr.of d.hs e2)) _ fun _ H3 d3 ⟨i, e, hi⟩ => by
    subst e
    exact ⟨h, l, cells, i, rfl, (hA i hi).1, (hA i hi).2, d3.hs, ex_l (((d.trans (Dr.of d.hs e2)).trans d3).ex) hS, fun v H4 v0 v1 d4 => q _ H4 (((Dr.of d.hs e2).trans d3).trans d4) ⟨v, rfl, v0, i, hi, v1⟩⟩
theorem xb_cmp {g : Int → Int → Bool} (ha : EvI ta σ H h l A) (hb : EvI tb σ H h l B) : EvX (tOp (rI0 fun i j => .bl (g i j)) ta tb) σ H h l (fun v _ => ∃ k, v = .bl k) := fun H1 d Q q =>
  ha H1 d _ fun _ H2 d2 ⟨i, e, _⟩ => hb H2 (d.trans d2) _ fun _ H3 d3 ⟨j, e', _⟩ => ⟨i, j, e, e', q _ H3 (d2.trans d3) ⟨_, rfl⟩⟩
theorem xb_eq (ha : EvI ta σ H h l A) (hb : EvI tb σ H h l B) : EvX (tOp rEq ta tb) σ H h l (fun v _ => ∃ k, v = .bl k) := fun H1 d Q q =>
  ha H1 d _ fun _ H2 d2 ⟨i, e, _⟩ => hb H2 (d.trans d2) _ fun _ H3 d3 ⟨j, e', _⟩ => by
    subst e e'
    exact ⟨rfl, q _ H3 (d2.trans d3) ⟨_, rfl⟩⟩
def rInt1 : List V → Hp → VK → Prop := fun xs H Q => (∃ i, xs = [.int i] ∧ Q (.int i) H) ∨ ∃ k, xs = [.bl k] ∧ Q (.int (if k then 1 else 0)) H
theorem xi_intb (ha : EvX ta σ H h l (fun v _ => ∃ k, v = .bl k)) : EvI (tCB rInt1 (tCons ta tNil)) σ H h l (fun i => i = 0 ∨ i = 1) := fun H1 d Q q =>
  ha H1 d _ fun _ H2 d2 ⟨k, e⟩ => .inr ⟨k, by rw [e], q _ H2 d2 ⟨_, rfl, by cases k <;> simp⟩⟩
theorem xt_test (ha : EvX ta σ H h l (fun v _ => ∃ k, v = .bl k)) : EvXT (tTest ta) σ H h l := fun H1 d Q q => ha H1 d _ fun _ H2 d2 ⟨k, e⟩ => ⟨k, e, q k H2 d2⟩
/-- [a, b][draw] -/
theorem xi_pick {n : Nat} {ns : List Int} (ha : EvL ta σ (wn H (hl h l)) (ns.map V.int)) (hb : EvI tb σ H h l B) (hn : ∀ i, B i → 0 ≤ i ∧ i < ns.length) : EvI (tOp (rIxL K) ta tb) σ H h l (fun i => i ∈ ns) := fun H1 d Q q =>
  x_evL ha H1 d _ fun _ H2 d2 ⟨p, e, hp⟩ => hb H2 (d.trans d2) _ fun _ H3 d3 ⟨j, e', hj⟩ => by
    subst e e'
    obtain ⟨j0, j1⟩ := hn j hj
    refine ⟨p, ns.map V.int, j, .int (ns.getD j.toNat 0), rfl, rfl, sq_of (wn_ex _ _ (d3.ex _ _ hp)), atI_mapI j0 j1, q _ H3 (d2.trans d3) ⟨_, rfl, ?_⟩⟩
    have hlt : j.toNat < ns.length := by omega
    have e : ns.getD j.toNat 0 = ns[j.toNat] := by simp [List.getD, hlt]
    rw [e]; exact List.getElem_mem hlt
/-- [e for i in range(n)], e drawn -/
theorem x_lcR {ta : TA} {jj : Nat} {vs : List Nat} {n : Int} (hn : EvA ta σ (wn H (hl h l)) [.int n]) (hz : 0 ≤ n ∧ n ≤ 40000) (hw : ∀ x, wipe ((wipe σ vs).set jj (some x)) vs = wipe σ vs)
    (he : ∀ (i : Nat) H1, Dr h l H H1 → (i : Int) < n → EvI te ((wipe σ vs).set jj (some (.int (i : Int)))) H1 h l A) : EvX (tLc (iRng1 ta) (gName jj) tYes te vs) σ H h l (LI fun ns => (ns.length : Int) = n ∧ ∀ x ∈ ns, A x) := fun H0 d0 Q q =>
  hn H0 (d0.ex.trans wn_ex) _ fun H1 e1 => ⟨n, rfl, by omega, by omega, fun Dl hD => by
    have d1 := Dr.of d0.hs e1
    have nD : ¬ hl h l Dl := hl_new (G' := H1) d1.hs hD
    have dn : Dr h l H1 (upd H1 Dl (.lst [])) := Dr.of d1.hs (Ex.new hD)
    refine lc_range (lo := 0) (n := n.toNat) (fun i H' => Dr h l H1 H' ∧ ∃ ns : List Int, H' Dl = some (.lst (ns.map V.int)) ∧ ns.length = i ∧ ∀ x ∈ ns, A x) ⟨dn, [], upd_same, rfl, by simp⟩ (fun i H' hi p => ?_) (fun H' p => ?_)
    · obtain ⟨d2, ns, h2, hl2, hA⟩ := p
      have e0 : (0 : Int) + (i : Int) = (i : Int) := Int.zero_add _
      show wipe ((wipe σ vs).set jj (some (.int ((0 : Int) + (i : Int))))) vs = wipe σ vs ∧ _
      refine ⟨hw _, ?_⟩
      show te ((wipe σ vs).set jj (some (.int ((0 : Int) + (i : Int))))) H' _
      rw [e0]
      refine he i H' ((d0.trans d1).trans d2) (by omega) H' (Dr.refl d2.hs) _ fun v H3 d3 hv => ?_
      obtain ⟨k, rfl, hk⟩ := hv
      have h3 : H3 Dl = some (.lst (ns.map V.int)) := wn_ex _ _ (d3.ex _ _ (by rw [wn_ni nD]; exact h2))
      have d5 : Dr h l H1 (upd H3 Dl (.lst (ns.map V.int ++ [.int k]))) := ⟨by
        obtain ⟨p0, m, r, a1, rr⟩ := d3.hs
        exact ⟨p0, m, r, by rw [upd_ne (fun z => nD z.symm)]; exact a1, rr⟩, fun b u hb => by
        obtain ⟨q1, q2⟩ := wn_some hb
        have z := wn_ex _ _ ((d2.trans d3).ex b u hb)
        rw [wn_ni q1, upd_ne (ne_of_none q2 hD)]
        exact z⟩
      refine ⟨_, h3, by rw [List.length_map]; exact sz_lt (by omega), d5, ns ++ [k], by rw [upd_same, List.map_append]; rfl, by rw [List.length_append, hl2]; rfl, fun x hx => ?_⟩
      rcases List.mem_append.mp hx with z | z
      · exact hA x z
      · rw [List.mem_singleton.mp z]; exact hk
    · obtain ⟨d2, ns, h2, hl2, hA⟩ := p
      exact q _ H' (d1.trans d2) ⟨Dl, ns, rfl, by rw [wn_ni nD]; exact h2, by omega, hA⟩⟩
/-- statements whose values are drawn -/
theorem x_ret {P : V → Hp → Prop} {D : Ends} (hs : HS H h l) (hx : EvX te σ H h l P) (k : ∀ v H2, Dr h l H H2 → P v (wn H2 (hl h l)) → D.rt v H2) : tRet te D σ H := hx H (Dr.refl hs) _ k
theorem x_asgG {P : V → Hp → Prop} {D : Ends} {tz : TS} {g : TG} (hs : HS H h l) (hx : EvX te σ H h l P) (k : ∀ v H2, Dr h l H H2 → P v (wn H2 (hl h l)) → g v σ H2 (tz D)) : tSeq (tAsg te g) tz D σ H := hx H (Dr.refl hs) _ k
theorem x_asg {P : V → Hp → Prop} {D : Ends} {tz : TS} {n : Nat} (hs : HS H h l) (hx : EvX te σ H h l P) (k : ∀ v H2, Dr h l H H2 → P v (wn H2 (hl h l)) → tz D (σ.set n (some v)) H2) : tSeq (tAsg te (gName n)) tz D σ H := hx H (Dr.refl hs) _ k
theorem x_asgI {D : Ends} {tz : TS} {n : Nat} (hs : HS H h l) (hx : EvI te σ H h l A) (k : ∀ i H2, Dr h l H H2 → A i → tz D (σ.set n (some (.int i))) H2) : tSeq (tAsg te (gName n)) tz D σ H := hx H (Dr.refl hs) _ fun _ H2 d ⟨i, e, p⟩ => by subst e; exact k i H2 d p
theorem x_par {P Q : V → Hp → Prop} {D : Ends} {tz : TS} {m n : Nat} (hs : HS H h l) (hx : EvX ta σ H h l P) (hy : EvX tb σ H h l Q) (k : ∀ v w H1 H2, Dr h l H H1 → Dr h l H1 H2 → P v (wn H1 (hl h l)) → Q w (wn H2 (hl h l)) → tz D ((σ.set m (some v)).set n (some w)) H2) : tSeq (tPar m n (tCons ta (tCons tb tNil))) tz D σ H :=
  hx H (Dr.refl hs) _ fun v H1 d1 p1 => hy H1 d1 _ fun w H2 d2 p2 => ⟨v, w, rfl, k v w H1 H2 d1 d2 p1 p2⟩
theorem x_if {D : Ends} {tt : TT} {tu tw tz : TS} (hs : HS H h l) (hx : EvXT tt σ H h l) (h1 : ∀ H2, Dr h l H H2 → tu { D with nx := tz D } σ H2) (h2 : ∀ H2, Dr h l H H2 → tw { D with nx := tz D } σ H2) : tSeq (tIfS tt tu tw) tz D σ H := hx H (Dr.refl hs) _ fun b H2 d => by
  cases b with
  | true => exact h1 H2 d
  | false => exact h2 H2 d
theorem x_ifK {M : L2.St → Hp → Prop} {D : Ends} {tt : TT} {tu tw tz : TS} (hs : HS H h l) (hx : EvXT tt σ H h l) (fin : ∀ σ' H', M σ' H' → tz D σ' H') (h1 : ∀ H2, Dr h l H H2 → (∀ σ' H', M σ' H' → tz D σ' H') → tu { D with nx := tz D } σ H2)
    (h2 : ∀ H2, Dr h l H H2 → (∀ σ' H', M σ' H' → tz D σ' H') → tw { D with nx := tz D } σ H2) : tSeq (tIfS tt tu tw) tz D σ H := x_if hs hx (fun H2 d => h1 H2 d fin) (fun H2 d => h2 H2 d fin)
/-- a call all of whose arguments are drawn: the first ones plain -/
theorem x_call3 {sp : Sp} {E : XK} {P : V → Hp → Prop} {u : V} (ha : ∀ G, Ev ta σ G u) (hb : EvI tb σ H h l A) (hc : EvI tc σ H h l B) (hp : ∀ i j H1, A i → B j → Dr h l H H1 → ∀ Q : VK, (∀ v H2, Dr h l H1 H2 → P v (wn H2 (hl h l)) → Q v H2) → sp [u, .int i, .int j] H1 Q E) :
    EvX (tCall sp [] E (tCons ta (tCons tb (tCons tc tNil)))) σ H h l P := fun H1 d Q q =>
  ha H1 H1 (Ex.refl _) _ fun H2 e2 => hb H2 (d.trans (Dr.of d.hs e2)) _ fun _ H3 d3 ⟨i, e, hi⟩ => hc H3 ((d.trans (Dr.of d.hs e2)).trans d3) _ fun _ H4 d4 ⟨j, e', hj⟩ => by
    subst e e'
    exact hp i j H4 hi hj (((d.trans (Dr.of d.hs e2)).trans d3).trans d4) Q fun v H5 d5 p => q v H5 ((((Dr.of d.hs e2)).trans d3).trans (d4.trans d5)) p
theorem x_tupL {A : List Int → Prop} (ha : EvX ta σ H h l (LI A)) : EvX (tCB (rTupS K) (tCons ta tNil)) σ H h l (TI' A) := fun H1 d Q q =>
  ha H1 d _ fun _ H2 d2 ⟨p, ns, e, hp, hA⟩ => ⟨p, ns.map V.int, by rw [e], .inl ⟨sq_of (wn_ex _ _ hp), fun t ht => by
    have d3 := Dr.of d2.hs (Ex.new (o := .tup (ns.map V.int)) ht)
    exact q _ _ (d2.trans d3) ⟨t, ns, rfl, by rw [wn_ni (hl_new (G' := H2) d2.hs ht)]; exact upd_same, hA⟩⟩⟩
theorem ew_cat (ha : EvW K ta σ H xs) (hb : EvW K tb σ H ys) (hz : xs.length + ys.length ≤ 100000) : EvW K (tOp (rCatA K) ta tb) σ H (xs ++ ys) := fun H1 e Q q =>
  ha H1 e _ fun p H2 e2 h2 => hb H2 (e.trans e2) _ fun r H3 e3 h3 => ⟨p, r, xs, ys, rfl, rfl, ex_t e3 h2, h3, sz_of hz,
    fun z => q r H3 (e2.trans e3) (by rw [z]; exact h3), fun _ z => q p H3 (e2.trans e3) (by rw [z, List.append_nil]; exact ex_t e3 h2),
    fun _ _ t ht => q t _ ((e2.trans e3).trans (Ex.new ht)) (st_of upd_same)⟩
theorem ew_drop {tl : TE} {k : Nat} (ha : EvW K te σ H xs) (hk : Ev tl σ H (.int (k : Int))) : EvW K (tSl (rSlA K) te (tPart tl) tNoPart) σ H (xs.drop k) := fun H1 e Q q =>
  ha H1 e _ fun p H2 e2 h2 => hk H2 (e.trans e2) _ fun H3 e3 => ⟨(k : Int), rfl, p, xs, rfl, ex_t e3 h2, fun w => by
      have hi : min k xs.length = 0 := by rw [← HT.sIx_nat xs.length 0 k]; exact w.1
      have t : xs.drop k = xs := by
        rcases Nat.eq_zero_or_pos k with z | z
        · rw [z]; rfl
        · have : xs.length = 0 := by omega
          rw [List.length_eq_zero_iff.mp this]; simp
      rw [t] at q
      exact q p H3 (e2.trans e3) (ex_t e3 h2), fun _ r hr => by
      refine q r _ ((e2.trans e3).trans (Ex.new hr)) (st_of ?_)
      rw [upd_same]
      unfold cutV
      rw [HT.sIx_none, HT.sIx_nat]
      congr 2
      by_cases hk : k ≤ xs.length
      · rw [Nat.min_eq_left hk, List.take_of_length_le (by simp)]
      · rw [Nat.min_eq_right (by omega)]
        simp [List.drop_eq_nil_of_le (Nat.le_of_not_le hk)]⟩
end
end Sw
namespace Sw
open PySem PySem.Spec PyProof.Rows L2 Evl
local macro_rules | `(tactic| walk_at "ev") => `(tactic| first
  | exact ev_c
  | exact ev_var rfl
  | ((with_reducible show Ev (tCB rMax2 _) _ _ _); exact ev_maxi (by walk_at "ev") (by walk_at "ev"))
  | ((with_reducible show Ev (tCB rMn _) _ _ _); exact ev_min2 (by walk_at "ev") (by walk_at "ev"))
  | ((with_reducible show Ev (tUn _ _) _ _ _); exact ev_un (by walk_at "ev") ru_neg)
  | ((with_reducible show Ev (tFld _ _ _) _ _ _); exact ev_fldK (by walk_at "ev") (by assumption))
  | ((with_reducible show Ev (tOp (rI0 _) _ _) _ _ _); exact ev_op (by walk_at "ev") (by walk_at "ev") rv_I0)
  | ((with_reducible show Ev (tOp rEq _ _) _ _ _); exact ev_op (by walk_at "ev") (by walk_at "ev") (rv_eq rfl))
  | ((with_reducible show Ev (tOp rNe _ _) _ _ _); exact ev_op (by walk_at "ev") (by walk_at "ev") (rv_ne rfl)))

/-! ### prices: which are wrong -/
def okc (c : Int) : Bool := decide (0 ≤ c) && decide (c ≤ 1000000)
def pf : Nat → Str
  | 0 => "sale"
  | 1 => "cost"
  | _ => "waste"
/-- the part of the first wrong one -/
def flt (ns : List Int) : Option Str := if okc (ns.getD 0 0) = false then some (pf 0) else if okc (ns.getD 1 0) = false then some (pf 1) else if okc (ns.getD 2 0) = false then some (pf 2) else none
theorem pf_len (k : Nat) : (pf k).length ≤ 1000 := by
  match k with
  | 0 => decide +kernel
  | 1 => decide +kernel
  | (n + 2) => show (Str.ofString "waste").length ≤ 1000; decide +kernel
/-! ### tuples of three into names -/
section
variable {K : PySem.W.Frag} {σ : L2.St} {H : Hp} {te : TE} {a : Addr} {x y z : V}
theorem q_un3 {i j k : Nat} {D : Ends} {tz : TS} (h : Ev te σ H (.ref a)) (hx : SqT K H a [x, y, z]) (c : ∀ H1, Ex H H1 → tz D (((σ.set i (some x)).set j (some y)).set k (some z)) H1) :
    tSeq (tAsg te (gTup K 3 (gCons (gName i) (gCons (gName j) (gCons (gName k) gNil))))) tz D σ H := h H (Ex.refl H) _ fun H1 e1 => ⟨a, [x, y, z], rfl, ex_t e1 hx, rfl, _, _, rfl, _, _, rfl, _, _, rfl, rfl, c H1 e1⟩
end
variable {P : Program} {w : World} {K : PySem.W.Frag} {mg : Str → Option Value} {base : Heap} {Z : Ad}
/-! ### check_price -/
def sp_cp : Sp := fun vs H Q _ => ∃ (s : Str) (c : Int), vs = [.str s, .int c] ∧ okc c = true ∧ RetV .non H Q
theorem spv_cp {H : Hp} {s : Str} {c : Int} (h : okc c = true) : SpV sp_cp [.str s, .int c] H .non := fun _ _ _ q _ => ⟨s, c, rfl, h, q⟩
theorem okc_b (c : Int) : (decide (c < 0) || decide (1000000 < c)) = !okc c := by
  unfold okc
  by_cases h1 : c < 0 <;> by_cases h2 : 1000000 < c <;> simp [h1, h2] <;> omega
theorem ok_check_price (T : Txt K mg Z) : FnOk P w K mg base CX0 1 Z.f_check_price Z.d_check_price p_check_price sp_cp := by
  refine T.F_check_price.ok sc_check_price (fun vs H Q E h => ?_) (fun cdv Ar outer s H vs Q E hr h => ?_)
  · obtain ⟨s, c, rfl, _⟩ := h
    rfl
  · obtain ⟨s, c, rfl, h1, k⟩ := h
    refine ⟨_, (pss_one (ps_if (PW.pt (pw_or (pt_cmpR op_lt (pv 1) pe_int (nomark _)) (pw_or1 (pt_cmpR op_gt (pv 1) (pe_glob (v := .int 1000000) (by rfl) T.g_MOST_CENTS ⟨_, rfl⟩) (nomark _))))) (pss_one ps_no) pss_nil)), ?_⟩
    exact s_when (b := false) (et_is (et_or (et_test (by walk_at "ev")) fun _ => et_test (by walk_at "ev")) (by rw [okc_b, h1]; rfl)) (fun hb => nomatch hb) fun _ H1 e1 => k H1 e1
/-! ### the prices -/
structure PriAt (K : PySem.W.Frag) (Z : Ad) (H : Hp) (p : Addr) (ns : List Int) : Prop where
  f : ∃ t, FlK K H p Z.c_Prices "_cents" (.ref t) ∧ SqT K H t (ns.map V.int)
  l : ns.length = 3
theorem PriAt.mono {H H' : Hp} {p : Addr} {ns : List Int} (e : Ex H H') (h : PriAt K Z H p ns) : PriAt K Z H' p ns := ⟨let ⟨t, a, b⟩ := h.f; ⟨t, a.mono e, ex_t e b⟩, h.l⟩
theorem PriAt.inst {H : Hp} {p : Addr} {ns : List Int} (h : PriAt K Z H p ns) : ∃ dx fs, H p = some (.ins Z.c_Prices dx fs) := let ⟨_, a, _⟩ := h.f; let ⟨dx, fs, x, _⟩ := a.fl; ⟨dx, fs, x⟩
theorem three {ns : List Int} (h : ns.length = 3) : ns = [ns.getD 0 0, ns.getD 1 0, ns.getD 2 0] := by
  match ns, h with
  | [a, b, c], _ => rfl
def sp_Pinit (K : PySem.W.Frag) (Z : Ad) : Sp := fun vs H Q _ => ∃ (x dx : Addr) (a b c : Int), vs = [.ref x, .int a, .int b, .int c] ∧ H x = some (.ins Z.c_Prices dx []) ∧ flt [a, b, c] = none ∧
  ∀ H', PriAt K Z H' x [a, b, c] → (∀ b o, H b = some o → b ≠ x → H' b = some o) → Q .non H'
theorem flt_none {a b c : Int} (h : flt [a, b, c] = none) : okc a = true ∧ okc b = true ∧ okc c = true := by
  unfold flt at h
  simp only [List.getD_cons_zero, List.getD_cons_succ] at h
  split at h
  · cases h
  split at h
  · cases h
  split at h
  · cases h
  rename_i h1 h2 h3
  exact ⟨by simpa using h1, by simpa using h2, by simpa using h3⟩
theorem ok_Prices___init__ (T : Txt K mg Z) : FnOk P w K mg base CX0 2 Z.f_Prices___init__ Z.d_Prices___init__ p_Prices___init__ (sp_Pinit K Z) := by
  refine T.F_Prices___init__.ok sc_Prices___init__ (fun vs H Q E h => ?_) (fun cdv Ar outer s H vs Q E hr h => ?_)
  · obtain ⟨x, dx, a, b, c, rfl, _⟩ := h
    rfl
  · obtain ⟨x, dx, a, b, c, rfl, hx, hf, k⟩ := h
    obtain ⟨f1, f2, f3⟩ := flt_none hf
    have cl := T.cl_Prices
    refine ⟨_, (pss_cons (ps_expr (pe_call (ok_check_price T) (hr.mono (by decide)) (by rfl) T.g_check_price T.F_check_price.kp T.b_check_price .nil pass0 (pa_cons pe_str (pa_cons (pv 1) pa_nil))))
      (pss_cons (ps_expr (pe_call (ok_check_price T) (hr.mono (by decide)) (by rfl) T.g_check_price T.F_check_price.kp T.b_check_price .nil pass0 (pa_cons pe_str (pa_cons (pv 2) pa_nil))))
      (pss_cons (ps_expr (pe_call (ok_check_price T) (hr.mono (by decide)) (by rfl) T.g_check_price T.F_check_price.kp T.b_check_price .nil pass0 (pa_cons pe_str (pa_cons (pv 3) pa_nil))))
      (pss_one (ps_fld (pv 0) (pe_tup (pa_cons (pv 1) (pa_cons (pv 2) (pa_cons (pv 3) pa_nil)))) rfl))))), ?_⟩
    refine q_drop (ev_call (ea_cons ev_c (ea_cons (ev_var rfl) ea_nil)) (spv_cp f1)) fun H1 e1 => ?_
    refine q_drop (ev_call (ea_cons ev_c (ea_cons (ev_var rfl) ea_nil)) (spv_cp f2)) fun H2 e2 => ?_
    refine q_drop (ev_call (ea_cons ev_c (ea_cons (ev_var rfl) ea_nil)) (spv_cp f3)) fun H3 e3 => ?_
    have e13 := (e1.trans e2).trans e3
    refine s_fldU (xs := [.int a, .int b, .int c]) (eu_tup (ea_cons (ev_var rfl) (ea_cons (ev_var rfl) (ea_cons (ev_var rfl) ea_nil))) (by show 3 ≤ 100000; decide)) (fun _ _ => ev_var rfl) (e13 _ _ hx) cl T.na_Prices__cents (by decide) fun p H4 hp e4 h4 => ?_
    have npx : p ≠ x := fun z => by rw [z, e13 _ _ hx] at hp; cases hp
    refine k _ ⟨⟨p, flk_of upd_same cl T.na_Prices__cents rfl, st_of ((upd_ne npx).trans h4)⟩, rfl⟩ fun b o hb hne => (upd_ne hne).trans (e4 _ _ (e13 _ _ hb))
/-- Prices(..) of good numbers, of wrong ones -/
theorem r_pri {σ : L2.St} {H : Hp} {t : TA} {a b c : Int} {E : XK} {Q : VK} {sp : Sp} (hsp : ∀ vs H Q E, sp_Pinit K Z vs H Q E → sp vs H Q E) (ht : EvA t σ H [.int a, .int b, .int c]) (hf : flt [a, b, c] = none) (k : ∀ p H2, H p = none → Ex H H2 → PriAt K Z H2 p [a, b, c] → Q (.ref p) H2) :
    tMake Z.c_Prices sp [] E t σ H Q := ht H (Ex.refl H) _ fun H1 e1 x dx hx hdx hne => by
  have eN : Ex H1 (upd (upd H1 dx (.own x)) x (.ins Z.c_Prices dx [])) := fun b o hbo => by
    rw [upd_ne (ne_of_none hbo hx), upd_ne (ne_of_none hbo hdx)]; exact hbo
  exact hsp _ _ _ _ ⟨x, dx, a, b, c, rfl, upd_same, hf, fun H2 hP hk => ⟨rfl, k x H2 (fresh_back e1 hx) (e1.trans fun b o hbo => hk b o (eN b o hbo) (ne_of_none hbo hx)) hP⟩⟩
def sp_cents (K : PySem.W.Frag) (Z : Ad) : Sp := fun vs H Q _ => ∃ (p : Addr) (ns : List Int), vs = [.ref p] ∧ PriAt K Z H p ns ∧ ∀ t H', Ex H H' → SqT K H' t (ns.map V.int) → Q (.ref t) H'
theorem ok_Prices_cents (T : Txt K mg Z) : FnOk P w K mg base CX0 1 Z.f_Prices_cents Z.d_Prices_cents p_Prices_cents (sp_cents K Z) := by
  refine T.F_Prices_cents.ok sc_Prices_cents (fun vs H Q E h => ?_) (fun cdv Ar outer s H vs Q E hr h => ?_)
  · obtain ⟨p, ns, rfl, _⟩ := h
    rfl
  · obtain ⟨p, ns, rfl, hp, k⟩ := h
    obtain ⟨t, hf, ht⟩ := hp.f
    refine ⟨_, (pss_one (ps_ret (pe_fldK K rfl (pv 0) rfl))), ?_⟩
    exact s_ret (ev_fldK (ev_var rfl) hf) fun H1 e1 => k t H1 e1 (ex_t e1 ht)
def gain (ns : List Int) (b s t : Int) : Int := s * ns.getD 0 0 - b * ns.getD 1 0 - t * ns.getD 2 0
def sp_Pcall (K : PySem.W.Frag) (Z : Ad) : Sp := fun vs H Q _ => ∃ (p : Addr) (ns : List Int) (b s t : Int), vs = [.ref p, .int b, .int s, .int t] ∧ PriAt K Z H p ns ∧ (∀ k, 0 ≤ ns.getD k 0 ∧ ns.getD k 0 ≤ 1000000) ∧ RetV (.int (gain ns b s t)) H Q
theorem ok_Prices___call__ (T : Txt K mg Z) : FnOk P w K mg base CX0 1 Z.f_Prices___call__ Z.d_Prices___call__ p_Prices___call__ (sp_Pcall K Z) := by
  refine T.F_Prices___call__.ok sc_Prices___call__ (fun vs H Q E h => ?_) (fun cdv Ar outer s H vs Q E hr h => ?_)
  · obtain ⟨p, ns, b, s, t, rfl, _⟩ := h
    rfl
  · obtain ⟨p, ns, b, s, t, rfl, hp, hn, k⟩ := h
    obtain ⟨tt, hf, ht⟩ := hp.f
    have e3 := three hp.l
    have n0 := hn 0
    have n1 := hn 1
    have n2 := hn 2
    rw [e3] at ht
    refine ⟨_, (pss_cons (ps_asg (pe_fldK K rfl (pv 0) rfl) (by exact (pg_tupK K (n := 3) rfl rfl (pgs_cons (pg_name (i := 4) sc_Prices___call__.nd rfl (Or.inl rfl)) (pgs_cons (pg_name (i := 5) sc_Prices___call__.nd rfl (Or.inl rfl)) (pgs_cons (pg_name (i := 6) sc_Prices___call__.nd rfl (Or.inl rfl)) pgs_nil))))))
      (pss_one (ps_ret (pe_op op_sub (pe_op op_sub (pe_op op_mul (pv 2) (pv 4)) (pe_op op_mul (pv 1) (pv 5))) (pe_op op_mul (pv 3) (pv 6)))))), ?_⟩
    refine q_un3 (ev_fldK (ev_var rfl) hf) ht fun H1 e1 => ?_
    exact s_ret (ev_op (ev_op (ev_op (ev_var rfl) (ev_var rfl) (rv_I (wide_ok (by omega)))) (ev_op (ev_var rfl) (ev_var rfl) (rv_I (wide_ok (by omega)))) rv_I0) (ev_op (ev_var rfl) (ev_var rfl) (rv_I (wide_ok (by omega)))) rv_I0) fun H2 e2 => k H2 (e1.trans e2)
section
variable {K : PySem.W.Frag} {Z : Ad} {X : Cx} {σ : L2.St} {H : Hp} {ta : TE} {t : TA} {p : Addr} {as : List Int} {E : XK}
theorem ev_pcall {b s u : Int} (h : Ev ta σ H (.ref p)) (hp : PriAt K Z H p as) (ht : EvA t σ H [.int b, .int s, .int u]) (hn : ∀ k, 0 ≤ as.getD k 0 ∧ as.getD k 0 ≤ 1000000) : Ev (StX.tCallO X Z.c_Prices (sp_Pcall K Z) E ta t) σ H (.int (gain as b s u)) := fun H1 e Q k =>
  h H1 e _ fun H2 e2 => ⟨p, rfl, ht H2 (e.trans e2) _ fun H3 e3 => ⟨.inr (hp.mono ((e.trans e2).trans e3)).inst, p, as, b, s, u, rfl, hp.mono ((e.trans e2).trans e3), hn, fun H4 e4 => k H4 ((e2.trans e3).trans e4)⟩⟩
end
end Sw
namespace Sw
/-! ### more baking: what is missed, as it changes with each loaf more -/
section
variable {bs ds : List Int}
/-- what was missed so far, and the stock less that -/
def cumM (bs ds ks : List Int) (t : Nat) : Int := psum (misS bs ds ks) t
def netW (bs ds ks : List Int) (t : Nat) : Int := dayS bs ds ks t - cumM bs ds ks t
theorem cumM_step (bs ds ks : List Int) (t : Nat) : cumM bs ds ks (t + 1) = max (cumM bs ds ks t) (dm bs ds t - bk bs t - netW bs ds ks t) := by
  show psum _ t + misS bs ds ks t = _
  unfold netW cumM misS; omega
theorem netW_step (bs ds ks : List Int) (t : Nat) (hk : 0 ≤ ks.getD (t % bs.length) 0) : netW bs ds ks (t + 1) = min (netW bs ds ks t + bk bs t - dm bs ds t) (ks.getD (t % bs.length) 0 - cumM bs ds ks (t + 1)) := by
  have e : dayS bs ds ks (t + 1) = stp (dayS bs ds ks t) (bs.getD (t % bs.length) 0) (ds.getD (t % bs.length) 0) (ks.getD (t % bs.length) 0) := rfl
  have c : cumM bs ds ks (t + 1) = cumM bs ds ks t + misS bs ds ks t := rfl
  unfold netW
  rw [c, e]
  unfold misS bk dm stp
  omega
/-- three bakeries, each with one loaf more a day than the one before: the middle one misses at most the mean -/
theorem cum_convex {b1 b2 b3 k1 k2 k3 : List Int} (l1 : b1.length = b2.length) (l3 : b3.length = b2.length) (hb : ∀ i, i < b2.length → b1.getD i 0 + b3.getD i 0 = 2 * b2.getD i 0) (hk : ∀ i, i < b2.length → k1.getD i 0 + k3.getD i 0 = 2 * k2.getD i 0)
    (n1 : ∀ i, 0 ≤ k1.getD i 0) (n2 : ∀ i, 0 ≤ k2.getD i 0) (n3 : ∀ i, 0 ≤ k3.getD i 0) (h0 : 0 < b2.length) (t : Nat) :
    2 * cumM b2 ds k2 t ≤ cumM b1 ds k1 t + cumM b3 ds k3 t ∧ netW b1 ds k1 t + netW b3 ds k3 t ≤ 2 * netW b2 ds k2 t := by
  induction t with
  | zero => constructor <;> simp [cumM, netW, psum, dayS]
  | succ t ih =>
    have hlt := Nat.mod_lt t h0
    have qb := hb _ hlt
    have qk := hk _ hlt
    have c1 := cumM_step b1 ds k1 t
    have c2 := cumM_step b2 ds k2 t
    have c3 := cumM_step b3 ds k3 t
    have w1 := netW_step b1 ds k1 t (n1 _)
    have w2 := netW_step b2 ds k2 t (n2 _)
    have w3 := netW_step b3 ds k3 t (n3 _)
    unfold dm bk at c1 c2 c3 w1 w2 w3
    rw [l1] at c1 w1
    rw [l3] at c3 w3
    obtain ⟨i1, i2⟩ := ih
    have m : 2 * cumM b2 ds k2 (t + 1) ≤ cumM b1 ds k1 (t + 1) + cumM b3 ds k3 (t + 1) := by
      rw [c1, c2, c3]; omega
    refine ⟨m, ?_⟩
    rw [w1, w2, w3]
    omega
theorem cum_rounds {ks : List Int} (h : CoM bs ds ks) (R : Nat) : cumM bs ds ks (bs.length + R * bs.length) = cumM bs ds ks bs.length + (R : Int) * (lmOf bs ds ks).sum := by
  unfold cumM
  rw [rounds_psum (f := misS bs ds ks) (n := bs.length) (a := bs.length) (fun t ht => misS_round h ht) R, lm_sum h]
theorem keepAt_lin {life m : Int} {i : Nat} (h0 : 0 < bs.length) : keepAt (bs.map (· + m)) life i = keepAt bs life i + ((life - 1).toNat : Int) * m := by
  unfold keepAt
  rw [List.length_map]
  generalize (life - 1).toNat = n
  induction n with
  | zero => simp
  | succ n ih =>
    rw [List.range_succ, List.map_append, List.sum_append, List.map_append, List.sum_append, ih]
    have hlt : (((i : Int) - (n : Int)) % (bs.length : Int)).toNat < bs.length := by
      have := Int.emod_lt_of_pos ((i : Int) - (n : Int)) (show (0 : Int) < (bs.length : Int) by omega)
      have := Int.emod_nonneg ((i : Int) - (n : Int)) (show (bs.length : Int) ≠ 0 by omega)
      omega
    have z := map_getD (bs := bs) (m := m) hlt
    have e1 : (List.map (fun (age : Nat) => bs.getD (((i : Int) - (age : Int)) % (bs.length : Int)).toNat 0) [n]).sum = bs.getD (((i : Int) - (n : Int)) % (bs.length : Int)).toNat 0 := by simp
    have e2 : (List.map (fun (age : Nat) => (bs.map (· + m)).getD (((i : Int) - (age : Int)) % (bs.length : Int)).toNat 0) [n]).sum = (bs.map (· + m)).getD (((i : Int) - (n : Int)) % (bs.length : Int)).toNat 0 := by simp
    rw [e1, e2, z, show ((n + 1 : Nat) : Int) = (n : Int) + 1 by omega, Int.add_mul]
    omega
/-- the mean of one loaf fewer and one more misses no fewer, per round in the long run -/
theorem miss_convex {life m : Int} (g1 : Good (bs.map (· + (m - 1))) ds) (g2 : Good (bs.map (· + m)) ds) (g3 : Good (bs.map (· + (m + 1))) ds) (h0 : 0 < bs.length) :
    2 * missOf (bs.map (· + m)) ds life ≤ missOf (bs.map (· + (m - 1))) ds life + missOf (bs.map (· + (m + 1))) ds life := by
  have c1 := com_of g1 (life := life)
  have c2 := com_of g2 (life := life)
  have c3 := com_of g3 (life := life)
  have key := fun t => (cum_convex (ds := ds) (b1 := bs.map (· + (m - 1))) (b2 := bs.map (· + m)) (b3 := bs.map (· + (m + 1))) (k1 := keepL (bs.map (· + (m - 1))) life) (k2 := keepL (bs.map (· + m)) life) (k3 := keepL (bs.map (· + (m + 1))) life) (by simp) (by simp)
    (fun i hi => by rw [List.length_map] at hi; rw [map_getD hi, map_getD hi, map_getD hi]; omega)
    (fun i hi => by
      rw [List.length_map] at hi
      rw [keepL_get (by rw [List.length_map]; exact hi), keepL_get (by rw [List.length_map]; exact hi), keepL_get (by rw [List.length_map]; exact hi), keepAt_lin h0, keepAt_lin h0, keepAt_lin h0, Int.mul_sub, Int.mul_add]
      omega) c1.kn c2.kn c3.kn (by rw [List.length_map]; exact h0) t).1
  have r1 := cum_rounds c1
  have r2 := cum_rounds c2
  have r3 := cum_rounds c3
  rw [List.length_map] at r1 r2 r3
  have kR := fun R : Nat => by
    have z := key (bs.length + R * bs.length)
    rw [r1 R, r2 R, r3 R] at z
    exact z
  unfold missOf
  generalize (lmOf (bs.map (· + (m - 1))) ds (keepL (bs.map (· + (m - 1))) life)).sum = m1 at kR ⊢
  generalize (lmOf (bs.map (· + m)) ds (keepL (bs.map (· + m)) life)).sum = m2 at kR ⊢
  generalize (lmOf (bs.map (· + (m + 1))) ds (keepL (bs.map (· + (m + 1))) life)).sum = m3 at kR ⊢
  generalize cumM (bs.map (· + (m - 1))) ds (keepL (bs.map (· + (m - 1))) life) bs.length = a1 at kR
  generalize cumM (bs.map (· + m)) ds (keepL (bs.map (· + m)) life) bs.length = a2 at kR
  generalize cumM (bs.map (· + (m + 1))) ds (keepL (bs.map (· + (m + 1))) life) bs.length = a3 at kR
  by_cases hc : 2 * m2 ≤ m1 + m3
  · exact hc
  exfalso
  obtain ⟨R, hR⟩ : ∃ R : Nat, (a1 + a3 - 2 * a2).natAbs < R := ⟨(a1 + a3 - 2 * a2).natAbs + 1, by omega⟩
  have z := kR R
  have w : (R : Int) * (m1 + m3 - 2 * m2) ≤ (R : Int) * (-1) := Int.mul_le_mul_of_nonneg_left (by omega) (by omega)
  rw [Int.mul_sub, Int.mul_add, Int.mul_left_comm] at w
  omega
/-! ### the profit per round -/
def prf (ps bs ds : List Int) (life m : Int) : Int := gain ps (bs.map (· + m)).sum (ds.sum - missOf (bs.map (· + m)) ds life) ((bs.map (· + m)).sum - (ds.sum - missOf (bs.map (· + m)) ds life))
theorem sum_more (bs : List Int) (m : Int) : (bs.map (· + m)).sum = bs.sum + (bs.length : Int) * m := by
  induction bs with
  | nil => simp
  | cons a r ih => rw [List.map_cons, List.sum_cons, ih, List.sum_cons, List.length_cons, show ((r.length + 1 : Nat) : Int) = (r.length : Int) + 1 by omega, Int.add_mul]; omega
theorem prf_eq (ps bs ds : List Int) (life m : Int) : prf ps bs ds life m = (ps.getD 0 0 + ps.getD 2 0) * (ds.sum - missOf (bs.map (· + m)) ds life) - (ps.getD 1 0 + ps.getD 2 0) * (bs.sum + (bs.length : Int) * m) := by
  unfold prf gain
  rw [sum_more]
  generalize ds.sum - missOf (bs.map (· + m)) ds life = x
  generalize bs.sum + (bs.length : Int) * m = y
  rw [Int.sub_mul, Int.add_mul, Int.add_mul, Int.mul_comm x, Int.mul_comm x, Int.mul_comm y, Int.mul_comm y]
  omega
theorem prf_concave {ps : List Int} {life m : Int} (p0 : 0 ≤ ps.getD 0 0) (p2 : 0 ≤ ps.getD 2 0) (g1 : Good (bs.map (· + (m - 1))) ds) (g2 : Good (bs.map (· + m)) ds) (g3 : Good (bs.map (· + (m + 1))) ds) (h0 : 0 < bs.length) :
    prf ps bs ds life (m - 1) + prf ps bs ds life (m + 1) ≤ 2 * prf ps bs ds life m := by
  rw [prf_eq, prf_eq, prf_eq]
  have z := miss_convex (life := life) g1 g2 g3 h0
  generalize missOf (bs.map (· + (m - 1))) ds life = x1 at z ⊢
  generalize missOf (bs.map (· + m)) ds life = x2 at z ⊢
  generalize missOf (bs.map (· + (m + 1))) ds life = x3 at z ⊢
  have w := Int.mul_nonneg (show 0 ≤ ps.getD 0 0 + ps.getD 2 0 by omega) (show 0 ≤ x1 + x3 - 2 * x2 by omega)
  generalize ps.getD 0 0 + ps.getD 2 0 = u at w ⊢
  generalize ps.getD 1 0 + ps.getD 2 0 = v
  have e1 : u * (x1 + x3 - 2 * x2) = u * x1 + u * x3 - 2 * (u * x2) := by rw [Int.mul_sub, Int.mul_add, Int.mul_left_comm]
  have e2 : (bs.length : Int) * (m - 1) = (bs.length : Int) * m - (bs.length : Int) := by rw [Int.mul_sub, Int.mul_one]
  have e3 : (bs.length : Int) * (m + 1) = (bs.length : Int) * m + (bs.length : Int) := by rw [Int.mul_add, Int.mul_one]
  rw [e2, e3]
  simp only [Int.mul_sub, Int.mul_add]
  omega
/-! ### a concave sequence, and where it is greatest -/
theorem conc_down {f : Int → Int} {lo hi : Int} (hf : ∀ m, lo < m → m < hi → f (m - 1) + f (m + 1) ≤ 2 * f m) {m : Int} (hm : lo ≤ m) (h1 : m < hi) (hp : f (m + 1) > f m) : ∀ j : Int, lo ≤ j → j ≤ m → f (j + 1) > f j := by
  have go : ∀ n : Nat, lo ≤ m - n → f (m - n + 1) > f (m - n) := by
    intro n
    induction n with
    | zero => intro _; simpa using hp
    | succ n ih =>
      intro h
      have z := ih (by omega)
      have q := hf (m - n) (by omega) (by omega)
      rw [show m - ((n + 1 : Nat) : Int) = m - n - 1 by omega, show m - (n : Int) - 1 + 1 = m - n by omega]
      omega
  intro j h2 h3
  have z := go (m - j).toNat (by omega)
  rw [show m - ((m - j).toNat : Int) = j by omega] at z
  exact z
theorem conc_up {f : Int → Int} {lo hi : Int} (hf : ∀ m, lo < m → m < hi → f (m - 1) + f (m + 1) ≤ 2 * f m) {m : Int} (hm : lo ≤ m) (h1 : m < hi) (hp : ¬ f (m + 1) > f m) : ∀ j : Int, m ≤ j → j < hi → ¬ f (j + 1) > f j := fun j h2 h3 h4 => hp (conc_down hf (Int.le_trans hm h2) h3 h4 m hm h2)
theorem rises {f : Int → Int} {lo hi : Int} (h : ∀ j, lo ≤ j → j < hi → f (j + 1) > f j) : ∀ a : Int, lo ≤ a → a < hi → f a < f hi := by
  intro a h1 h2
  have go : ∀ n : Nat, lo ≤ hi - 1 - n → f (hi - 1 - n) < f hi := by
    intro n
    induction n with
    | zero => intro q; have z := h (hi - 1) (by omega) (by omega); rw [show hi - 1 + 1 = hi by omega] at z; simpa using z
    | succ n ih =>
      intro q
      have z := ih (by omega)
      have w := h (hi - 1 - ((n + 1 : Nat) : Int)) (by omega) (by omega)
      rw [show hi - 1 - ((n + 1 : Nat) : Int) + 1 = hi - 1 - n by omega] at w
      omega
  have z := go (hi - 1 - a).toNat (by omega)
  rw [show hi - 1 - ((hi - 1 - a).toNat : Int) = a by omega] at z
  exact z
theorem falls {f : Int → Int} {lo hi : Int} (h : ∀ j, lo ≤ j → j < hi → ¬ f (j + 1) > f j) : ∀ a : Int, lo ≤ a → a ≤ hi → f a ≤ f lo := by
  intro a h1 h2
  have go : ∀ n : Nat, lo + n ≤ hi → f (lo + n) ≤ f lo := by
    intro n
    induction n with
    | zero => intro _; simp
    | succ n ih =>
      intro q
      have z := ih (by omega)
      have w := h (lo + n) (by omega) (by omega)
      rw [show lo + ((n + 1 : Nat) : Int) = lo + n + 1 by omega]
      omega
  have z := go (a - lo).toNat (by omega)
  rw [show lo + ((a - lo).toNat : Int) = a by omega] at z
  exact z
end
end Sw
namespace Sw
open PySem PySem.Spec PyProof.Rows L2 Evl
local macro_rules | `(tactic| walk_at "ev") => `(tactic| first
  | exact ev_c
  | exact ev_var rfl
  | ((with_reducible show Ev (tCB rMax2 _) _ _ _); exact ev_maxi (by walk_at "ev") (by walk_at "ev"))
  | ((with_reducible show Ev (tCB rMn _) _ _ _); exact ev_min2 (by walk_at "ev") (by walk_at "ev"))
  | ((with_reducible show Ev (tUn _ _) _ _ _); exact ev_un (by walk_at "ev") ru_neg)
  | ((with_reducible show Ev (tFld _ _ _) _ _ _); exact ev_fldK (by walk_at "ev") (by assumption))
  | ((with_reducible show Ev (tOp (rI0 _) _ _) _ _ _); exact ev_op (by walk_at "ev") (by walk_at "ev") rv_I0)
  | ((with_reducible show Ev (tOp rEq _ _) _ _ _); exact ev_op (by walk_at "ev") (by walk_at "ev") (rv_eq rfl))
  | ((with_reducible show Ev (tOp rNe _ _) _ _ _); exact ev_op (by walk_at "ev") (by walk_at "ev") (rv_ne rfl)))

/-! ### round_profit, best_more -/
def prf0 (ps bs ds : List Int) (life : Int) : Int := gain ps bs.sum (ds.sum - (lmOf bs ds (keepL bs life)).sum) (bs.sum - (ds.sum - (lmOf bs ds (keepL bs life)).sum))
section
variable {K : PySem.W.Frag} {Z : Ad} {X : Cx} {σ : L2.St} {H H' : Hp} {ta tb te : TE} {x y z v : V} {b p : Addr} {ns bs ds ps : List Int} {life m : Int} {i : Nat} {E : XK}
theorem ew_lng (h : Ev ta σ H (.ref b)) (hB : BakAt K Z H b bs ds life i) : EvW K (tProp Z.c_Bakery (sp_Blong K Z) [] E ta) σ H ((longI bs ds (lmOf bs ds (keepL bs life))).map V.int) := fun H1 e Q q =>
  h H1 e _ fun H2 e2 => let ⟨dx, fs, h1⟩ := hB.inst; ⟨b, dx, fs, rfl, e2 _ _ (e _ _ h1), b, bs, ds, life, i, rfl, hB.mono (e.trans e2), fun p H3 e3 h3 => q p H3 (e2.trans e3) h3⟩
theorem ew_bks (h : Ev ta σ H (.ref b)) (hB : BakAt K Z H b bs ds life i) : EvW K (tProp Z.c_Bakery (sp_Bbakes K Z) [] E ta) σ H (bs.map V.int) := fun H1 e Q q =>
  h H1 e _ fun H2 e2 => let ⟨dx, fs, h1⟩ := hB.inst; ⟨b, dx, fs, rfl, e2 _ _ (e _ _ h1), b, bs, ds, life, i, rfl, hB.mono (e.trans e2), fun p H3 e3 h3 => q p H3 (e2.trans e3) h3⟩
theorem ev_sumW1 (h : EvW K ta σ H (ns.map V.int)) : Ev (tCB (rSumT K) (tCons ta tNil)) σ H (.int ns.sum) := fun H1 e Q q => h H1 e _ fun p H2 e2 h2 => ⟨p, ns, rfl, h2, q H2 e2⟩
theorem ev_maxW0 {top : Int} (h : EvW K ta σ H (ns.map V.int)) (h0 : top ∈ ns) (h1 : ∀ y ∈ ns, y ≤ top) : Ev (tCB (rMaxT K) (tCons ta tNil)) σ H (.int top) := fun H1 e Q q =>
  h H1 e _ fun p H2 e2 h2 => ⟨p, ns, rfl, h2, List.length_pos_of_mem h0, fun m hm hle => by
    have e : m = top := Int.le_antisymm (h1 m hm) (hle top h0)
    rw [e]; exact q H2 e2⟩
theorem q_un3W {i1 i2 i3 : Nat} {D : Ends} {tz : TS} (h : EvW K te σ H [x, y, z]) (c : ∀ H1, Ex H H1 → tz D (((σ.set i1 (some x)).set i2 (some y)).set i3 (some z)) H1) :
    tSeq (tAsg te (gTup K 3 (gCons (gName i1) (gCons (gName i2) (gCons (gName i3) gNil))))) tz D σ H := h H (Ex.refl H) _ fun a H1 e1 hx => ⟨a, [x, y, z], rfl, hx, rfl, _, _, rfl, _, _, rfl, _, _, rfl, rfl, c H1 e1⟩
theorem exists_top0 : ∀ {xs : List Int}, 0 < xs.length → ∃ t, t ∈ xs ∧ ∀ y ∈ xs, y ≤ t
  | [], h => absurd h (by decide)
  | [x], _ => ⟨x, by simp, by simp⟩
  | x :: y :: r, _ => by
    obtain ⟨t, ht, hm⟩ := exists_top0 (xs := y :: r) (by simp)
    rcases Int.le_total x t with z | z
    · exact ⟨t, List.mem_cons_of_mem _ ht, fun u hu => by rcases List.mem_cons.mp hu with e | e; omega; exact hm u e⟩
    · exact ⟨x, List.mem_cons_self, fun u hu => by rcases List.mem_cons.mp hu with e | e; omega; have := hm u e; omega⟩
theorem good_any (gd : Good bs ds) {m bot top : Int} (hb : ∀ x ∈ bs, bot ≤ x) (ht : ∀ x ∈ bs, x ≤ top) (h0 : -bot ≤ m) (h1 : m ≤ 1000000000 - top) : Good (bs.map (· + m)) ds :=
  ⟨by rw [List.length_map]; exact gd.n0, by rw [List.length_map]; exact gd.n1, by rw [List.length_map]; exact gd.ld, fun x hx => by
    obtain ⟨y, hy, rfl⟩ := List.mem_map.mp hx
    have := hb y hy
    have := ht y hy
    omega, gd.d0⟩
end
/-- where a function is greatest, the first place -/
def BestP (f : Int → Int) (lo hi m : Int) : Prop := lo ≤ m ∧ m ≤ hi ∧ (∀ a, lo ≤ a → a < m → f a < f m) ∧ ∀ a, m ≤ a → a ≤ hi → f a ≤ f m
variable {P : Program} {w : World} {K : PySem.W.Frag} {mg : Str → Option Value} {base : Heap} {Z : Ad}
def sp_round (K : PySem.W.Frag) (Z : Ad) : Sp := fun vs H Q _ => ∃ (b p : Addr) (bs ds ps : List Int) (life : Int) (i : Nat), vs = [.ref b, .ref p] ∧ BakAt K Z H b bs ds life i ∧ PriAt K Z H p ps ∧ (∀ k, 0 ≤ ps.getD k 0 ∧ ps.getD k 0 ≤ 1000000) ∧ RetV (.int (prf0 ps bs ds life)) H Q
theorem ok_round_profit (T : Txt K mg Z) : FnOk P w K mg base CX0 3 Z.f_round_profit Z.d_round_profit p_round_profit (sp_round K Z) := by
  refine T.F_round_profit.ok sc_round_profit (fun vs H Q E h => ?_) (fun cdv Ar outer s H vs Q E hr h => ?_)
  · obtain ⟨b, p, bs, ds, ps, life, i, rfl, _⟩ := h
    rfl
  · obtain ⟨b, p, bs, ds, ps, life, i, rfl, hB, hP, hn, k⟩ := h
    refine ⟨_, (pss_cons (ps_asg (pe_prop (pv 0) T.cl_Bakery T.pp_Bakery_long_run (ok_Bakery_long_run T) (hr.mono (by decide)) T.b_Bakery_long_run .nil pass0 rfl) (by exact (pg_tupK K (n := 3) rfl rfl (pgs_cons (pg_name (i := 2) sc_round_profit.nd rfl (Or.inl rfl)) (pgs_cons (pg_name (i := 3) sc_round_profit.nd rfl (Or.inl rfl)) (pgs_cons (pg_name (i := 4) sc_round_profit.nd rfl (Or.inl rfl)) pgs_nil))))))
      (pss_one (ps_ret (StX.pe_callO (pv 1) T.co_Prices (fnR_of (ok_Prices___call__ T) T.b_Prices___call__) (hr.mono (by decide)) pass0 (pa_cons (pe_callB (r := rSumT K) (cr_sumT rfl) (by rfl) T.b_sum boot_sum (pa_cons (pe_prop (pv 0) T.cl_Bakery T.pp_Bakery_bakes (ok_Bakery_bakes T) (hr.mono (by decide)) T.b_Bakery_bakes .nil pass0 rfl) pa_nil)) (pa_cons (pv 2) (pa_cons (pv 4) pa_nil))))))), ?_⟩
    refine q_un3W (x := .int _) (y := .int _) (z := .int _) (ew_lng (ev_var rfl) hB) fun H1 e1 => ?_
    exact s_ret (ev_pcall (ev_var rfl) (hP.mono e1) (ea_cons (ev_sumW1 (ew_bks (ev_var rfl) (hB.mono e1))) (ea_cons (ev_var rfl) (ea_cons (ev_var rfl) ea_nil))) hn) fun H2 e2 => k H2 (e1.trans e2)
end Sw
namespace Sw
open PySem PySem.Spec PyProof.Rows L2 Evl
local macro_rules | `(tactic| walk_at "ev") => `(tactic| first
  | exact ev_c
  | exact ev_var rfl
  | ((with_reducible show Ev (tCB rMax2 _) _ _ _); exact ev_maxi (by walk_at "ev") (by walk_at "ev"))
  | ((with_reducible show Ev (tCB rMn _) _ _ _); exact ev_min2 (by walk_at "ev") (by walk_at "ev"))
  | ((with_reducible show Ev (tUn _ _) _ _ _); exact ev_un (by walk_at "ev") ru_neg)
  | ((with_reducible show Ev (tFld _ _ _) _ _ _); exact ev_fldK (by walk_at "ev") (by assumption))
  | ((with_reducible show Ev (tOp (rI0 _) _ _) _ _ _); exact ev_op (by walk_at "ev") (by walk_at "ev") rv_I0)
  | ((with_reducible show Ev (tOp rEq _ _) _ _ _); exact ev_op (by walk_at "ev") (by walk_at "ev") (rv_eq rfl))
  | ((with_reducible show Ev (tOp rNe _ _) _ _ _); exact ev_op (by walk_at "ev") (by walk_at "ev") (rv_ne rfl)))

variable {P : Program} {w : World} {K : PySem.W.Frag} {mg : Str → Option Value} {base : Heap} {Z : Ad}
section
variable {X : Cx} {σ : L2.St} {H : Hp} {ta tb te tm : TE} {b p : Addr} {bs ds ps : List Int} {life m : Int} {i : Nat} {E E' : XK}
theorem ev_roundM (h : Ev ta σ H (.ref b)) (hB : BakAt K Z H b bs ds life i) (hm : Ev tm σ H (.int m)) (gd : Good (bs.map (· + m)) ds) (hp : Ev tb σ H (.ref p)) (hP : PriAt K Z H p ps) (hn : ∀ k, 0 ≤ ps.getD k 0 ∧ ps.getD k 0 ≤ 1000000) :
    Ev (tCall (sp_round K Z) [] E (tCons (tMeth Z.c_Bakery "baking_more" (sp_more K Z) [] E' ta (tCons tm tNil)) (tCons tb tNil))) σ H (.int (prf ps bs ds life m)) := fun H1 e Q q =>
  h H1 e _ fun H2 e2 => let ⟨dx, fs, h1, h2⟩ := hB.nf "baking_more" (by decide)
  ⟨b, dx, fs, rfl, e2 _ _ (e _ _ h1), h2, hm H2 (e.trans e2) _ fun H3 e3 => ⟨b, bs, ds, life, m, i, rfl, hB.mono ((e.trans e2).trans e3), gd, fun c H4 e4 ⟨j, hC⟩ =>
    hp H4 (((e.trans e2).trans e3).trans e4) _ fun H5 e5 => ⟨c, p, bs.map (· + m), ds, ps, life, j, rfl, hC.mono e5, hP.mono ((((e.trans e2).trans e3).trans e4).trans e5), hn, fun H6 e6 => q H6 ((((e2.trans e3).trans e4).trans e5).trans e6)⟩⟩⟩
end
def sp_best (K : PySem.W.Frag) (Z : Ad) : Sp := fun vs H Q _ => ∃ (b p : Addr) (bs ds ps : List Int) (life : Int) (i : Nat), vs = [.ref b, .ref p] ∧ BakAt K Z H b bs ds life i ∧ PriAt K Z H p ps ∧ (∀ k, 0 ≤ ps.getD k 0 ∧ ps.getD k 0 ≤ 1000000) ∧
  ∀ bot top m, bot ∈ bs → (∀ y ∈ bs, bot ≤ y) → top ∈ bs → (∀ y ∈ bs, y ≤ top) → BestP (prf ps bs ds life) (-bot) (1000000000 - top) m → ∀ t H', Ex H H' → H' t = some (.tup [.int m, .int (prf ps bs ds life m)]) → Q (.ref t) H'
theorem ok_best_more (T : Txt K mg Z) : FnOk P w K mg base CX0 9 Z.f_best_more Z.d_best_more p_best_more (sp_best K Z) := by
  refine T.F_best_more.ok sc_best_more (fun vs H Q E h => ?_) (fun cdv Ar outer s H vs Q E hr h => ?_)
  · obtain ⟨b, p, bs, ds, ps, life, i, rfl, _⟩ := h
    rfl
  · obtain ⟨b, p, bs, ds, ps, life, i, rfl, hB, hP, hn, k⟩ := h
    obtain ⟨top, ht, htm⟩ := exists_top0 hB.gd.n0
    obtain ⟨bot, hbot, hbm⟩ := exists_bot hB.gd.n0
    have gd := fun {m : Int} (h0 : -bot ≤ m) (h1 : m ≤ 1000000000 - top) => good_any hB.gd hbm htm h0 h1
    have hT := hB.gd.b0 top ht
    have hBo := hB.gd.b0 bot hbot
    have hf : ∀ m, -bot < m → m < 1000000000 - top → prf ps bs ds life (m - 1) + prf ps bs ds life (m + 1) ≤ 2 * prf ps bs ds life m := fun m h0 h1 => prf_concave (hn 0).1 (hn 2).1 (gd (by omega) (by omega)) (gd (by omega) (by omega)) (gd (by omega) (by omega)) hB.gd.n0
    refine ⟨_, (pss_cons (ps_set (i := 2) sc_best_more.nd rfl (Or.inl rfl) (pe_un un_neg (pe_callB (r := rMinT K) (cr_minT rfl) (by rfl) T.b_min boot_min (pa_cons (pe_prop (pv 0) T.cl_Bakery T.pp_Bakery_bakes (ok_Bakery_bakes T) (hr.mono (by decide)) T.b_Bakery_bakes .nil pass0 rfl) pa_nil))))
      (pss_cons (ps_set (i := 3) sc_best_more.nd rfl (Or.inl rfl) (pe_op op_sub (pe_glob (v := .int 1000000000) (by rfl) T.g_MOST_LOAVES ⟨_, rfl⟩) (pe_callB (r := rMaxT K) (cr_maxT rfl) (by rfl) T.b_max boot_max (pa_cons (pe_prop (pv 0) T.cl_Bakery T.pp_Bakery_bakes (ok_Bakery_bakes T) (hr.mono (by decide)) T.b_Bakery_bakes .nil pass0 rfl) pa_nil))))
      (pss_cons (ps_while PassesOwn.never (pt_cmpR op_lt (pv 2) (pv 3) (nomark _)) (pss_cons (ps_set (i := 4) sc_best_more.nd rfl (Or.inl rfl) (pe_op op_fdivW (pe_op op_add (pv 2) (pv 3)) pe_int))
      (pss_cons (ps_set (i := 5) sc_best_more.nd rfl (Or.inl rfl) (pe_call (ok_round_profit T) (hr.mono (by decide)) (by rfl) T.g_round_profit T.F_round_profit.kp T.b_round_profit .nil pass0 (pa_cons (pe_meth (pv 0) T.cl_Bakery T.m_Bakery_baking_more (ok_Bakery_baking_more T) (hr.mono (by decide)) T.b_Bakery_baking_more .nil pass0 (pa_cons (pv 4) pa_nil)) (pa_cons (pv 1) pa_nil))))
      (pss_one (ps_if (pt_cmpR op_gt (pe_call (ok_round_profit T) (hr.mono (by decide)) (by rfl) T.g_round_profit T.F_round_profit.kp T.b_round_profit .nil pass0 (pa_cons (pe_meth (pv 0) T.cl_Bakery T.m_Bakery_baking_more (ok_Bakery_baking_more T) (hr.mono (by decide)) T.b_Bakery_baking_more .nil pass0 (pa_cons (pe_op op_add (pv 4) pe_int) pa_nil)) (pa_cons (pv 1) pa_nil))) (pv 5) (nomark _)) (pss_one (ps_set (i := 2) sc_best_more.nd rfl (Or.inl rfl) (pe_op op_add (pv 4) pe_int))) (pss_one (ps_set (i := 3) sc_best_more.nd rfl (Or.inl rfl) (pv 4))))))))
      (pss_one (ps_ret (pe_tup (pa_cons (pv 2) (pa_cons (pe_call (ok_round_profit T) (hr.mono (by decide)) (by rfl) T.g_round_profit T.F_round_profit.kp T.b_round_profit .nil pass0 (pa_cons (pe_meth (pv 0) T.cl_Bakery T.m_Bakery_baking_more (ok_Bakery_baking_more T) (hr.mono (by decide)) T.b_Bakery_baking_more .nil pass0 (pa_cons (pv 2) pa_nil)) (pa_cons (pv 1) pa_nil))) pa_nil)))))))), ?_⟩
    refine q_asg (v := .int (-bot)) (ev_un (ev_minW0 (ew_bks (ev_var rfl) hB) hbot hbm) ru_neg) fun H1 e1 => ?_
    refine q_asg (ev_op ev_c (ev_maxW0 (ew_bks (ev_var rfl) (hB.mono e1)) ht htm) rv_I0) fun H2 e2 => ?_
    have e12 := e1.trans e2
    refine q_while (fun n σ' H' => ∃ lo hi : Int, n = (hi - lo).toNat ∧ -bot ≤ lo ∧ lo ≤ hi ∧ hi ≤ 1000000000 - top ∧ (∃ x4 x5, σ' = [some (.ref b), some (.ref p), some (.int lo), some (.int hi), x4, x5]) ∧ Ex H H' ∧
      (∀ j, -bot ≤ j → j < lo → prf ps bs ds life (j + 1) > prf ps bs ds life j) ∧ (∀ j, hi ≤ j → j < 1000000000 - top → ¬ prf ps bs ds life (j + 1) > prf ps bs ds life j)) _
      ⟨-bot, 1000000000 - top, rfl, Int.le_refl _, by omega, Int.le_refl _, ⟨_, _, rfl⟩, e12, fun j h0 h1 => by omega, fun j h0 h1 => by omega⟩ ?_
    rintro n σ' H' ⟨lo, hi, rfl, l0, lh, ht1, ⟨x4, x5, rfl⟩, e, hlo, hhi⟩
    refine ⟨_, et_test (ev_op (ev_var rfl) (ev_var rfl) rv_I0), fun hb H5 e5 => ?_, fun hb H5 e5 => ?_⟩
    · have hlt : lo < hi := by simpa using hb
      refine ⟨fun σ2 H2 => ∃ n', n' < (hi - lo).toNat ∧ ∃ lo hi : Int, n' = (hi - lo).toNat ∧ -bot ≤ lo ∧ lo ≤ hi ∧ hi ≤ 1000000000 - top ∧ (∃ x4 x5, σ2 = [some (.ref b), some (.ref p), some (.int lo), some (.int hi), x4, x5]) ∧ Ex H H2 ∧
        (∀ j, -bot ≤ j → j < lo → prf ps bs ds life (j + 1) > prf ps bs ds life j) ∧ (∀ j, hi ≤ j → j < 1000000000 - top → ¬ prf ps bs ds life (j + 1) > prf ps bs ds life j), fun σ2 H2 h => h, ?_⟩
      refine q_asg (ev_op (ev_op (ev_var rfl) (ev_var rfl) rv_I0) ev_c (rv_I ⟨by decide, by decide⟩)) fun H6 e6 => ?_
      have e56 := (e.trans e5).trans e6
      have q1 : lo ≤ (lo + hi) / 2 := by omega
      have q2 : (lo + hi) / 2 < hi := by omega
      generalize (lo + hi) / 2 = mid at q1 q2 ⊢
      refine q_asg (ev_roundM (ev_var rfl) (hB.mono e56) (ev_var rfl) (gd (m := mid) (by omega) (by omega)) (ev_var rfl) (hP.mono e56) hn) fun H7 e7 => ?_
      have e57 := e56.trans e7
      refine s_if (et_test (ev_op (ev_roundM (ev_var rfl) (hB.mono e57) (ev_op (ev_var rfl) ev_c rv_I0) (gd (m := mid + 1) (by omega) (by omega)) (ev_var rfl) (hP.mono e57) hn) (ev_var rfl) rv_I0)) (fun hb2 H8 e8 => ?_) (fun hb2 H8 e8 => ?_)
      · have up : prf ps bs ds life (mid + 1) > prf ps bs ds life mid := by simpa using hb2
        exact s_asg (ev_op (ev_var rfl) ev_c rv_I0) fun H9 e9 => ⟨_, by omega, mid + 1, hi, rfl, by omega, by omega, ht1, ⟨_, _, rfl⟩, (e57.trans e8).trans e9, fun j h0 h1 => conc_down hf (by omega) (by omega) up j h0 (by omega), hhi⟩
      · have dn : ¬ prf ps bs ds life (mid + 1) > prf ps bs ds life mid := by simpa using hb2
        exact s_asg (ev_var rfl) fun H9 e9 => ⟨_, by omega, lo, mid, rfl, l0, q1, by omega, ⟨_, _, rfl⟩, (e57.trans e8).trans e9, hlo, fun j h0 h1 => conc_up hf (by omega) (by omega) dn j h0 h1⟩
    · have heq : lo = hi := by have : ¬ lo < hi := by simpa using hb
                               omega
      subst heq
      have e5' := e.trans e5
      refine s_retU (xs := [.int lo, .int (prf ps bs ds life lo)]) (eu_tup (ea_cons (ev_var rfl) (ea_cons (ev_roundM (ev_var rfl) (hB.mono e5') (ev_var rfl) (gd l0 ht1) (ev_var rfl) (hP.mono e5') hn) ea_nil)) (by show 2 ≤ 100000; decide)) fun t H6 _ e6 h6 => ?_
      exact k bot top lo hbot hbm ht htm ⟨l0, ht1, fun a h0 h1 => rises (fun j q1 q2 => hlo j (by omega) q2) a h0 h1, fun a h0 h1 => falls (hi := 1000000000 - top) (fun j q1 q2 => hhi j q1 q2) a h0 h1⟩ t H6 (e5'.trans e6) h6
end Sw
namespace Sw
open PySem PySem.Spec PyProof.Rows L2 Evl
local macro_rules | `(tactic| walk_at "ev") => `(tactic| first
  | exact ev_c
  | exact ev_var rfl
  | ((with_reducible show Ev (tCB rMax2 _) _ _ _); exact ev_maxi (by walk_at "ev") (by walk_at "ev"))
  | ((with_reducible show Ev (tCB rMn _) _ _ _); exact ev_min2 (by walk_at "ev") (by walk_at "ev"))
  | ((with_reducible show Ev (tUn _ _) _ _ _); exact ev_un (by walk_at "ev") ru_neg)
  | ((with_reducible show Ev (tFld _ _ _) _ _ _); exact ev_fldK (by walk_at "ev") (by assumption))
  | ((with_reducible show Ev (tOp (rI0 _) _ _) _ _ _); exact ev_op (by walk_at "ev") (by walk_at "ev") rv_I0)
  | ((with_reducible show Ev (tOp rEq _ _) _ _ _); exact ev_op (by walk_at "ev") (by walk_at "ev") (rv_eq rfl))
  | ((with_reducible show Ev (tOp rNe _ _) _ _ _); exact ev_op (by walk_at "ev") (by walk_at "ev") (rv_ne rfl)))

section
variable {K : PySem.W.Frag} {Z : Ad} {σ : L2.St} {H H' : Hp} {ta tb tc te : TE} {v : V} {h l p : Addr} {ns bs ds : List Int} {life : Int} {A B : Int → Prop} {D : Ends} {tz : TS}
theorem et_chainD {i j k : Int} {f g : Int → Int → Bool} (ha : Ev ta σ H (.int i)) (hb : Ev tb σ H (.int j)) (hc : Ev tc σ H (.int k)) : EvT (tTest (tChain (rI0 fun i j => .bl (f i j)) (rI0 fun i j => .bl (g i j)) ta tb tc)) σ H (f i j && g j k) := et_test (fun H1 e Q q =>
  ha H1 e _ fun H2 e2 => hb H2 (e.trans e2) _ fun H3 e3 => ⟨i, j, rfl, rfl, f i j, rfl, by
    cases hf : f i j with
    | true => exact hc H3 ((e.trans e2).trans e3) _ fun H4 e4 => ⟨j, k, rfl, rfl, by rw [hf] at q; exact q H4 ((e2.trans e3).trans e4)⟩
    | false => rw [hf] at q; exact q H3 (e2.trans e3)⟩)
/-- two lists of numbers, joined -/
theorem x_catL {A B : List Int → Prop} (ha : EvX ta σ H h l (LI A)) (hb : EvX tb σ H h l (LI B)) (hz : ∀ as bs, A as → B bs → as.length + bs.length ≤ 100000) : EvX (tOp rCat ta tb) σ H h l (LI fun ns => ∃ as bs, ns = as ++ bs ∧ A as ∧ B bs) := fun H1 d Q q =>
  ha H1 d _ fun _ H2 d2 ⟨p, as, e, hp, hA⟩ => hb H2 (d.trans d2) _ fun _ H3 d3 ⟨r, bs, e', hr, hB⟩ => by
    subst e e'
    have hp3 := wn_ex _ _ (d3.ex _ _ hp)
    refine ⟨p, r, as.map V.int, bs.map V.int, rfl, rfl, hp3, wn_ex _ _ hr, sz_of (by rw [List.length_map, List.length_map]; exact hz as bs hA hB), fun t ht => ?_⟩
    have d4 := Dr.of d3.hs (Ex.new (o := .lst (as.map V.int ++ bs.map V.int)) ht)
    exact q _ _ ((d2.trans d3).trans d4) ⟨t, as ++ bs, rfl, by rw [wn_ni (hl_new (G' := H3) d3.hs ht), upd_same, List.map_append], as, bs, rfl, hA, hB⟩
theorem x_vL {A : List Int → Prop} (hv : ∀ G, Ev ta σ G (.ref p)) (hp : wn H (hl h l) p = some (.lst (ns.map V.int))) (hA : A ns) : EvX ta σ H h l (LI A) := fun H1 d Q q =>
  hv H1 H1 (Ex.refl _) Q fun H2 e2 => q _ H2 (Dr.of d.hs e2) ⟨p, ns, rfl, (d.ex.trans (wn_mono e2)) p _ hp, hA⟩
theorem x_pairI {m n : Nat} (hs : HS H h l) (ha : EvI ta σ H h l A) (hb : EvI tb σ H h l B) (k : ∀ i j S, Dr h l H S → A i → B j → tz D ((σ.set m (some (.int i))).set n (some (.int j))) S) : tSeq (tAsg (tTup (tCons ta (tCons tb tNil))) (gTup K 2 (gCons (gName m) (gCons (gName n) gNil)))) tz D σ H :=
  ha H (Dr.refl hs) _ fun v H1 d1 ⟨i, e, hi⟩ => hb H1 d1 _ fun w H2 d2 ⟨j, e', hj⟩ => ⟨by show 2 ≤ sizeLine; decide, fun r hr => by
    subst e e'
    exact ⟨r, [.int i, .int j], rfl, st_of upd_same, rfl, _, _, rfl, _, _, rfl, rfl, k i j _ ((d1.trans d2).trans (Dr.of d2.hs (Ex.new (o := .tup [.int i, .int j]) hr))) hi hj⟩⟩
theorem xi_dr {cells : List Int} {n : Int} {E : XK} (hc : SqL K (wn H (hl h l)) l (cells.map V.int)) (ha : ∀ G, Ev ta σ G (.ref h)) (hb : EvI tb σ H h l (fun i => i = n)) (p0 : 0 < n) (p1 : n ≤ 1000000000000000000) : EvI (tCall (sp_drawn K) [] E (tCons ta (tCons tb tNil))) σ H h l (fun v => 0 ≤ v ∧ v < n) :=
  (xi_drawn hc ha hb (fun i e => by subst e; exact ⟨p0, p1⟩)).imp fun v q => ⟨q.1, by obtain ⟨j, ej, zj⟩ := q.2; omega⟩
theorem xi_drA {cells : List Int} {n : Int} {E : XK} (hc : SqL K (wn H (hl h l)) l (cells.map V.int)) (ha : ∀ G, Ev ta σ G (.ref h)) (hb : EvI tb σ H h l A) (hA : ∀ i, A i → 0 < i ∧ i ≤ n) (p1 : n ≤ 1000000000000000000) : EvI (tCall (sp_drawn K) [] E (tCons ta (tCons tb tNil))) σ H h l (fun v => 0 ≤ v ∧ v < n) :=
  (xi_drawn hc ha hb (fun i e => by have := hA i e; omega)).imp fun v q => ⟨q.1, by obtain ⟨j, ej, zj⟩ := q.2; have := hA j ej; omega⟩
/-- a bakery whose life is drawn, prices that are drawn -/
theorem q_bakD {t1 t2 : TE} {pb pd : Addr} {E : XK} {i1 : Nat} (hs : HS H h l) (h1 : ∀ G, Ev t1 σ G (.ref pb)) (h2 : ∀ G, Ev t2 σ G (.ref pd)) (hx : EvI te σ H h l A) (hb : SqT K (wn H (hl h l)) pb (bs.map V.int)) (hd : SqT K (wn H (hl h l)) pd (ds.map V.int)) (gd : Good bs ds) (hA : ∀ i, A i → 1 ≤ i ∧ i ≤ 30)
    (k : ∀ (b : Addr) (i : Nat) (life : Int) (S : Hp), Dr h l H S → BakAt K Z (wn S (hl h l)) b bs ds life i → A life → tz D (σ.set i1 (some (.ref b))) S) : tSeq (tAsg (tMake Z.c_Bakery (sp_Binit K Z) [] E (tCons t1 (tCons t2 (tCons te tNil)))) (gName i1)) tz D σ H := by
  dsimp only [tSeq, tAsg, gName, tMake, tCons, tNil]
  refine h1 H H (Ex.refl _) _ fun H1 e1 => h2 H1 H1 (Ex.refl _) _ fun H2 e2 => hx H2 (Dr.of hs (e1.trans e2)) _ fun v H3 d3 ⟨life, e, hi⟩ => ?_
  subst e
  have d13 := (Dr.of hs (e1.trans e2)).trans d3
  have hX := er_bakery (K := K) (Z := Z) (M := hl h l) (H := H3) (σ := [some (.ref pb), some (.ref pd), some (.int life)]) (E := E) (t := tCons (tVar 0) (tCons (tVar 1) (tCons (tVar 2) tNil))) (ea_cons (ev_var rfl) (ea_cons (ev_var rfl) (ea_cons (ev_var rfl) ea_nil))) (ex_t d13.ex hb) (ex_t d13.ex hd) gd (hA life hi).1 (hA life hi).2
  have z := hX H3 (Ex.refl _) d13.hs.kn (fun v S => tz D (σ.set i1 (some v)) S) fun p S _ e4 ⟨i, hP⟩ => k p i life S (d13.trans (Dr.of d13.hs e4)) hP hi
  dsimp only [tMake, tCons, tNil] at z
  obtain ⟨v1, r1, v2, r2, v3, r3, z⟩ := z
  cases r1; cases r2; cases r3
  exact z
theorem pri_wn {ps : List Int} (hs : HS H h l) (hp : PriAt K Z H p ps) : PriAt K Z (wn H (hl h l)) p ps := by
  have k : ∀ {b : Addr} {o : HO}, H b = some o → (∀ ys, o ≠ .lst ys) → wn H (hl h l) b = some o := fun e n1 => (wn_ni (hl_kind hs e n1)).trans e
  obtain ⟨⟨t, a, b⟩, hl3⟩ := hp
  obtain ⟨⟨dx, fs, e, q⟩, c, na⟩ := a
  refine ⟨⟨t, ⟨⟨dx, fs, k e (fun _ z => nomatch z), q⟩, c, na⟩, ?_⟩, hl3⟩
  rcases b with (b | ⟨u, b⟩) | b
  · exact .inl (.inl (k b fun _ z => nomatch z))
  · exact .inl (.inr ⟨u, k b fun _ z => nomatch z⟩)
  · exact .inr b
theorem q_priD {t1 t2 t3 : TE} {E : XK} {i1 : Nat} {A1 A2 A3 : Int → Prop} (hs : HS H h l) (h1 : EvI t1 σ H h l A1) (h2 : EvI t2 σ H h l A2) (h3 : EvI t3 σ H h l A3) (hf : ∀ a b c, A1 a → A2 b → A3 c → flt [a, b, c] = none)
    (k : ∀ (p : Addr) (a b c : Int) (S : Hp), Dr h l H S → PriAt K Z (wn S (hl h l)) p [a, b, c] → A1 a → A2 b → A3 c → tz D (σ.set i1 (some (.ref p))) S) : tSeq (tAsg (tMake Z.c_Prices (sp_Pinit K Z) [] E (tCons t1 (tCons t2 (tCons t3 tNil)))) (gName i1)) tz D σ H := by
  dsimp only [tSeq, tAsg, gName, tMake, tCons, tNil]
  refine h1 H (Dr.refl hs) _ fun v1 H1 d1 ⟨a, e1, ha⟩ => h2 H1 d1 _ fun v2 H2 d2 ⟨b, e2, hb⟩ => h3 H2 (d1.trans d2) _ fun v3 H3 d3 ⟨c, e3, hc⟩ => ?_
  subst e1 e2 e3
  have d13 := (d1.trans d2).trans d3
  have z := r_pri (K := K) (Z := Z) (H := H3) (σ := [some (.int a), some (.int b), some (.int c)]) (E := E) (t := tCons (tVar 0) (tCons (tVar 1) (tCons (tVar 2) tNil))) (Q := fun v S => tz D (σ.set i1 (some v)) S) (sp := sp_Pinit K Z) (fun _ _ _ _ h => h) (ea_cons (ev_var rfl) (ea_cons (ev_var rfl) (ea_cons (ev_var rfl) ea_nil))) (hf a b c ha hb hc) fun p S _ e4 hP =>
    k p a b c S (d13.trans (Dr.of d13.hs e4)) (pri_wn (d13.hs.mono e4) hP) ha hb hc
  dsimp only [tMake, tCons, tNil] at z
  obtain ⟨v1, r1, v2, r2, v3, r3, z⟩ := z
  cases r1; cases r2; cases r3
  exact z
end
variable {P : Program} {w : World} {K : PySem.W.Frag} {mg : Str → Option Value} {base : Heap} {Z : Ad}
def sp_lawamounts (K : PySem.W.Frag) : Sp := fun vs H Q _ => ∃ (h l : Addr) (cells : List Int) (count high : Int), vs = [.ref h, .int count, .int high] ∧ 0 ≤ count ∧ count ≤ 1000 ∧ 0 ≤ high ∧ high ≤ 1000000000 ∧ HS H h l ∧ SqL K (wn H (hl h l)) l (cells.map V.int) ∧
  ∀ (p : Addr) (ns : List Int) (H' : Hp), Dr h l H H' → wn H' (hl h l) p = some (.tup (ns.map V.int)) → (ns.length : Int) = count → (∀ x ∈ ns, 0 ≤ x ∧ x ≤ high) → Q (.ref p) H'
theorem ok__law_amounts (T : Txt K mg Z) : FnOk P w K mg base CX0 2 Z.f__law_amounts Z.d__law_amounts p__law_amounts (sp_lawamounts K) := by
  refine T.F__law_amounts.ok sc__law_amounts (fun vs H Q E h => ?_) (fun cdv Ar outer s H vs Q E hr h => ?_)
  · obtain ⟨a, l, cells, count, high, rfl, _⟩ := h
    rfl
  · obtain ⟨a, l, cells, count, high, rfl, c0, c1, w0, w1, hs, hS, k⟩ := h
    refine ⟨_, (pss_one (ps_ret (pe_callTy (r := rTupS K) (call_tuple_of) (by rfl) T.b_tuple boot_tuple (pa_cons (pe_lc (own := [("_law_k", 3)]) rfl sc__law_amounts.nd (pi_range1 (by rfl) T.b_range (pa_cons (pv 1) pa_nil)) (blkOk_by (own := [("_law_k", 3)]) (N := n__law_amounts) (sc := defScope s__law_amounts) (scope := { kind := PySem.ScopeKind.function, names := [ (PySem.Str.ofString ".0", PySem.NameKind.local), (PySem.Str.ofString "_law_k", PySem.NameKind.local), (PySem.Str.ofString "_law_drawn", PySem.NameKind.globalImplicit), (PySem.Str.ofString "int", PySem.NameKind.globalImplicit), (PySem.Str.ofString "_law_high", PySem.NameKind.free), (PySem.Str.ofString "_law_state", PySem.NameKind.free)], isGenerator := false, isCoroutine := false, more := [] : PySem.Scope }) (by decide +kernel)) (fun _ _ _ _ _ => (pg_name (i := 3) sc__law_amounts.nd rfl (Or.inl rfl))) (fun _ _ _ _ _ => pts_nil) (fun _ _ _ _ _ => (pe_op op_mul (pe_call (ok__law_drawn T) (hr.mono (by decide)) (by rfl) T.g__law_drawn T.F__law_drawn.kp T.b__law_drawn .nil pass0 (pa_cons (pv 0) (pa_cons (pe_op op_add (pv 2) pe_int) pa_nil))) (pe_callTy (r := rInt1) (call_int1) (by rfl) T.b_int boot_int (pa_cons (pe_cmpR op_gt (pe_call (ok__law_drawn T) (hr.mono (by decide)) (by rfl) T.g__law_drawn T.F__law_drawn.kp T.b__law_drawn .nil pass0 (pa_cons (pv 0) (pa_cons pe_int pa_nil))) pe_int (nomark _)) pa_nil))))) pa_nil)))), ?_⟩
    have hx : EvX _ _ H a l (TI' fun ns => (ns.length : Int) = count ∧ ∀ x ∈ ns, 0 ≤ x ∧ x ≤ high) := x_tupL (K := K) (x_lcR (jj := 3) (vs := [3]) (n := count) (σ := [some (.ref a), some (.int count), some (.int high), none]) (ea_cons (ev_var (i := 1) rfl) ea_nil) ⟨c0, by omega⟩ (fun _ => rfl) fun i H1 d1 hi =>
      xi_op (A := fun v => 0 ≤ v ∧ v < high + 1) (B := fun i => i = 0 ∨ i = 1) (xi_dr (E := E0) (n := high + 1) (ex_l d1.ex hS) (fun G => ev_var (i := 0) rfl) (xi_op0 (g := fun i j => i + j) (A := fun i => i = high) (B := fun i => i = 1) (xi_ev (ev_var (i := 2) rfl) rfl) (xi_ev ev_c rfl) (fun i j a b => by omega)) (by omega) (by omega))
        (xi_intb (xb_cmp (g := fun i j => decide (j < i)) (B := fun _ => True) (xi_dr (E := E0) (n := 4) (ex_l d1.ex hS) (fun G => ev_var (i := 0) rfl) (xi_ev ev_c rfl) (by decide) (by decide)) (xi_ev (i := 0) ev_c trivial)))
        (R := CMul) (g := fun i j => i * j) fun i j hi hj => ⟨by rcases hj with rfl | rfl <;> exact .inr (by decide), by rcases hj with rfl | rfl <;> simp <;> omega⟩)
    exact hx H (Dr.refl hs) _ fun v H2 d2 ⟨p, ns, e, hp, hl', hA⟩ => by
      subst e
      exact k p ns H2 d2 hp hl' hA
theorem x_amounts {σ : L2.St} {H : Hp} {h l : Addr} {ta tb tc : TE} {E : XK} {cells : List Int} {n w : Int} (hc : SqL K (wn H (hl h l)) l (cells.map V.int)) (ha : ∀ G, Ev ta σ G (.ref h)) (hb : Ev tb σ (wn H (hl h l)) (.int n)) (hw : Ev tc σ (wn H (hl h l)) (.int w)) (n0 : 0 ≤ n) (n1 : n ≤ 1000) (w0 : 0 ≤ w) (w1 : w ≤ 1000000000) :
    EvX (tCall (sp_lawamounts K) [] E (tCons ta (tCons tb (tCons tc tNil)))) σ H h l (TI' fun ns => (ns.length : Int) = n ∧ ∀ x ∈ ns, 0 ≤ x ∧ x ≤ w) :=
  x_call3 (A := fun i => i = n) (B := fun j => j = w) ha (xi_ev hb rfl) (xi_ev hw rfl) fun i j H1 ei ej d1 Q q => by
    subst ei ej
    exact ⟨h, l, cells, i, j, rfl, n0, n1, w0, w1, d1.hs, ex_l d1.ex hc, fun p ns H2 d2 hp e1 e2 => q _ H2 d2 ⟨p, ns, rfl, hp, e1, e2⟩⟩
end Sw
namespace Sw
open PySem PySem.Spec PyProof.Rows L2 Evl
local macro_rules | `(tactic| walk_at "ev") => `(tactic| first
  | exact ev_c
  | exact ev_var rfl
  | ((with_reducible show Ev (tCB rMax2 _) _ _ _); exact ev_maxi (by walk_at "ev") (by walk_at "ev"))
  | ((with_reducible show Ev (tCB rMn _) _ _ _); exact ev_min2 (by walk_at "ev") (by walk_at "ev"))
  | ((with_reducible show Ev (tUn _ _) _ _ _); exact ev_un (by walk_at "ev") ru_neg)
  | ((with_reducible show Ev (tFld _ _ _) _ _ _); exact ev_fldK (by walk_at "ev") (by assumption))
  | ((with_reducible show Ev (tOp (rI0 _) _ _) _ _ _); exact ev_op (by walk_at "ev") (by walk_at "ev") rv_I0)
  | ((with_reducible show Ev (tOp rEq _ _) _ _ _); exact ev_op (by walk_at "ev") (by walk_at "ev") (rv_eq rfl))
  | ((with_reducible show Ev (tOp rNe _ _) _ _ _); exact ev_op (by walk_at "ev") (by walk_at "ev") (rv_ne rfl)))

def sp_law (K : PySem.W.Frag) : Sp := fun vs H Q _ => ∃ (a : Addr) (ns : List Int), vs = [.ref a] ∧ SqL K H a (ns.map V.int) ∧ ns.length ≤ 63 ∧ ∀ H', Q (.bl true) H'
theorem sql_wn {K : PySem.W.Frag} {h l : Addr} {H H1 : Hp} {xs : List V} (hh : H h = none) (hS : SqL K H l xs) (e : Ex H H1) : SqL K (wn H1 (hl h l)) l xs := by
  have go : ∀ {o : HO}, H l = some o → wn H1 (hl h l) l = some o := fun {o} q => by
    have ne : ¬ hl h l l := fun z => by rw [show l = h from z, hh] at q; cases q
    exact (wn_ni ne).trans (e _ _ q)
  rcases hS with (q | ⟨u, q⟩) | q
  · exact .inl (.inl (go q))
  · exact .inl (.inr ⟨u, go q⟩)
  · exact .inr q
theorem flt_in {a b c : Int} (ha : 0 ≤ a ∧ a ≤ 1000000) (hb : 0 ≤ b ∧ b ≤ 1000000) (hc : 0 ≤ c ∧ c ≤ 1000000) : flt [a, b, c] = none := by
  have o : ∀ {x : Int}, 0 ≤ x ∧ x ≤ 1000000 → okc x = true := fun h => by unfold okc; simp [h.1, h.2]
  unfold flt
  simp only [List.getD_cons_zero, List.getD_cons_succ]
  rw [o ha, o hb, o hc]; decide
theorem q_ifK {σ : L2.St} {H : Hp} {M : L2.St → Hp → Prop} {D : Ends} {tt : TT} {tu tw tz : TS} {b : Bool} (h : EvT tt σ H b) (fin : ∀ σ' H', M σ' H' → tz D σ' H') (h1 : b = true → ∀ H1, Ex H H1 → (∀ σ' H', M σ' H' → tz D σ' H') → tu { D with nx := tz D } σ H1)
    (h2 : b = false → ∀ H1, Ex H H1 → (∀ σ' H', M σ' H' → tz D σ' H') → tw { D with nx := tz D } σ H1) : tSeq (tIfS tt tu tw) tz D σ H := q_if h (fun hb H1 e => h1 hb H1 e fin) fun hb H1 e => h2 hb H1 e fin
theorem el_rg {σ : L2.St} {H : Hp} {ta tb : TE} {i j : Int} (ha : Ev ta σ H (.int i)) (hb : Ev tb σ H (.int j)) (ok : RgOk i j) : EvL (tLstRg (tRg2 ta tb)) σ H (rgV i j) := fun H1 e Q q =>
  ha H1 e _ fun H2 e2 => hb H2 (e.trans e2) _ fun H3 e3 => ⟨i, j, rfl, rfl, ok, fun p hp => q p _ (fresh_back (e2.trans e3) hp) ((e2.trans e3).trans (Ex.new hp)) upd_same⟩
variable {P : Program} {w : World} {K : PySem.W.Frag} {mg : Str → Option Value} {base : Heap} {Z : Ad}
theorem q_bestG {σ : L2.St} {H : Hp} {ta tb : TE} {b p : Addr} {bs ds ps : List Int} {life : Int} {i : Nat} {E : XK} {m n : Nat} {D : Ends} {tz : TS} (ha : Ev ta σ H (.ref b)) (hb : Ev tb σ H (.ref p)) (hB : BakAt K Z H b bs ds life i) (hP : PriAt K Z H p ps) (hn : ∀ k, 0 ≤ ps.getD k 0 ∧ ps.getD k 0 ≤ 1000000)
    (k : ∀ bot top x S, bot ∈ bs → (∀ y ∈ bs, bot ≤ y) → top ∈ bs → (∀ y ∈ bs, y ≤ top) → BestP (prf ps bs ds life) (-bot) (1000000000 - top) x → Ex H S → tz D ((σ.set m (some (.int x))).set n (some (.int (prf ps bs ds life x)))) S) :
    tSeq (tAsg (tCall (sp_best K Z) [] E (tCons ta (tCons tb tNil))) (gTup K 2 (gCons (gName m) (gCons (gName n) gNil)))) tz D σ H :=
  ha H (Ex.refl _) _ fun H1 e1 => hb H1 e1 _ fun H2 e2 => ⟨b, p, bs, ds, ps, life, i, rfl, hB.mono (e1.trans e2), hP.mono (e1.trans e2), hn, fun bot top x h1 h2 h3 h4 h5 t S e3 ht =>
    ⟨t, [.int x, .int (prf ps bs ds life x)], rfl, st_of ht, rfl, _, _, rfl, _, _, rfl, rfl, k bot top x S h1 h2 h3 h4 h5 ((e1.trans e2).trans e3)⟩⟩
theorem ok_law (T : Txt K mg Z) : FnOk P w K mg base CX0 10 Z.f_law Z.d_law p_law (sp_law K) := by
  refine T.F_law.ok sc_law (fun vs H Q E h => ?_) (fun cdv Ar outer s H vs Q E hr h => ?_)
  · obtain ⟨a, ns, rfl, _⟩ := h
    rfl
  · obtain ⟨l, cells, rfl, hS, hn, k⟩ := h
    have p8 : (10 : Int) ^ (8 : Int).toNat = 100000000 := by decide
    have p9 : (10 : Int) ^ (9 : Int).toNat = 1000000000 := by decide
    refine ⟨_, (pss_cons (ps_set (i := 1) sc_law.nd rfl (Or.inr rfl) (pe_call (ok__law_start T) (hr.mono (by decide)) (by rfl) T.g__law_start T.F__law_start.kp T.b__law_start .nil pass0 (pa_cons (pv 0) pa_nil)))
      (pss_cons (ps_for PassesOwn.never rfl (pi_range1 (by rfl) T.b_range (pa_cons pe_int pa_nil)) (pg_name (i := 2) sc_law.nd rfl (Or.inl rfl)) (pss_cons (ps_asg (pe_tup (pa_cons (pe_ix (r := rIxL K) ix_list (pe_lst (pa_cons pe_int (pa_cons (pe_op op_pow pe_int pe_int) pa_nil))) (pe_call (ok__law_drawn T) (hr.mono (by decide)) (by rfl) T.g__law_drawn T.F__law_drawn.kp T.b__law_drawn .nil pass0 (pa_cons (pv 1) (pa_cons pe_int pa_nil))) (fun _ _ => rfl)) (pa_cons (pe_op op_add pe_int (pe_call (ok__law_drawn T) (hr.mono (by decide)) (by rfl) T.g__law_drawn T.F__law_drawn.kp T.b__law_drawn .nil pass0 (pa_cons (pv 1) (pa_cons pe_int pa_nil)))) pa_nil))) (by exact (pg_tupK K (n := 2) rfl rfl (pgs_cons (pg_name (i := 3) sc_law.nd rfl (Or.inr rfl)) (pgs_cons (pg_name (i := 4) sc_law.nd rfl (Or.inl rfl)) pgs_nil)))))
      (pss_cons (ps_par (i := 5) (j := 6) rfl sc_law.nd rfl rfl (by decide) rfl rfl (pa_cons (pe_call (ok__law_amounts T) (hr.mono (by decide)) (by rfl) T.g__law_amounts T.F__law_amounts.kp T.b__law_amounts .nil pass0 (pa_cons (pv 1) (pa_cons (pv 4) (pa_cons (pv 3) pa_nil)))) (pa_cons (pe_call (ok__law_amounts T) (hr.mono (by decide)) (by rfl) T.g__law_amounts T.F__law_amounts.kp T.b__law_amounts .nil pass0 (pa_cons (pv 1) (pa_cons (pv 4) (pa_cons (pv 3) pa_nil)))) pa_nil)) (by rfl))
      (pss_cons (ps_set (i := 7) sc_law.nd rfl (Or.inl rfl) (pe_make T.mk_Bakery (ok_Bakery___init__ T) (hr.mono (by decide)) (by rfl) T.g_Bakery T.b_Bakery___init__ .nil pass0 (pa_cons (pv 5) (pa_cons (pv 6) (pa_cons (pe_op op_add pe_int (pe_call (ok__law_drawn T) (hr.mono (by decide)) (by rfl) T.g__law_drawn T.F__law_drawn.kp T.b__law_drawn .nil pass0 (pa_cons (pv 1) (pa_cons (pe_ix (r := rIxL K) ix_list (pe_lst (pa_cons pe_int (pa_cons pe_int pa_nil))) (pe_call (ok__law_drawn T) (hr.mono (by decide)) (by rfl) T.g__law_drawn T.F__law_drawn.kp T.b__law_drawn .nil pass0 (pa_cons (pv 1) (pa_cons pe_int pa_nil))) (fun _ _ => rfl)) pa_nil)))) pa_nil)))))
      (pss_cons (ps_set (i := 8) sc_law.nd rfl (Or.inl rfl) (pe_make T.mk_Prices (ok_Prices___init__ T) (hr.mono (by decide)) (by rfl) T.g_Prices T.b_Prices___init__ .nil pass0 (pa_cons (pe_call (ok__law_drawn T) (hr.mono (by decide)) (by rfl) T.g__law_drawn T.F__law_drawn.kp T.b__law_drawn .nil pass0 (pa_cons (pv 1) (pa_cons pe_int pa_nil))) (pa_cons (pe_call (ok__law_drawn T) (hr.mono (by decide)) (by rfl) T.g__law_drawn T.F__law_drawn.kp T.b__law_drawn .nil pass0 (pa_cons (pv 1) (pa_cons pe_int pa_nil))) (pa_cons (pe_call (ok__law_drawn T) (hr.mono (by decide)) (by rfl) T.g__law_drawn T.F__law_drawn.kp T.b__law_drawn .nil pass0 (pa_cons (pv 1) (pa_cons pe_int pa_nil))) pa_nil)))))
      (pss_cons (ps_asg (pe_call (ok_best_more T) (hr.mono (by decide)) (by rfl) T.g_best_more T.F_best_more.kp T.b_best_more .nil pass0 (pa_cons (pv 7) (pa_cons (pv 8) pa_nil))) (by exact (pg_tupK K (n := 2) rfl rfl (pgs_cons (pg_name (i := 9) sc_law.nd rfl (Or.inl rfl)) (pgs_cons (pg_name (i := 10) sc_law.nd rfl (Or.inl rfl)) pgs_nil)))))
      (pss_cons (ps_asg (pe_tup (pa_cons (pe_op op_sub pe_int (pe_callB (r := rMinT K) (cr_minT rfl) (by rfl) T.b_min boot_min (pa_cons (pv 5) pa_nil))) (pa_cons (pe_op op_sub (pe_op op_pow pe_int pe_int) (pe_callB (r := rMaxT K) (cr_maxT rfl) (by rfl) T.b_max boot_max (pa_cons (pv 5) pa_nil))) pa_nil))) (by exact (pg_tupK K (n := 2) rfl rfl (pgs_cons (pg_name (i := 11) sc_law.nd rfl (Or.inr rfl)) (pgs_cons (pg_name (i := 12) sc_law.nd rfl (Or.inl rfl)) pgs_nil)))))
      (pss_cons (ps_if (PW.pt (pw_or (pt_not (pt_chain op_le op_le (pv 11) (pv 9) (pv 12))) (pw_or1 (pt_cmpR op_ne (pe_call (ok_round_profit T) (hr.mono (by decide)) (by rfl) T.g_round_profit T.F_round_profit.kp T.b_round_profit .nil pass0 (pa_cons (pe_meth (pv 7) T.cl_Bakery T.m_Bakery_baking_more (ok_Bakery_baking_more T) (hr.mono (by decide)) T.b_Bakery_baking_more .nil pass0 (pa_cons (pv 9) pa_nil)) (pa_cons (pv 8) pa_nil))) (pv 10) (nomark _))))) (pss_one (ps_ret pe_bl)) pss_nil)
      (pss_cons (ps_set (i := 13) sc_law.nd rfl (Or.inl rfl) (pe_lst (pa_cons (pe_callB (r := rMax2) (call_max2 rfl) (by rfl) T.b_max boot_max (pa_cons (pv 11) (pa_cons (pe_op op_sub (pv 9) pe_int) pa_nil))) (pa_cons (pe_callB (r := rMn) (call_min2 rfl) (by rfl) T.b_min boot_min (pa_cons (pv 12) (pa_cons (pe_op op_add (pv 9) pe_int) pa_nil))) (pa_cons (pv 11) (pa_cons pe_int pa_nil))))))
      (pss_cons (ps_if (pt_cmpR op_eq (pv 3) pe_int (nomark _)) (pss_one (ps_set (i := 13) sc_law.nd rfl (Or.inl rfl) (pe_op op_cat (pv 13) (pe_listRg rfl (by rfl) T.b_list (prg_2 (by rfl) T.b_range (pv 11) pe_int))))) (pss_one (ps_set (i := 13) sc_law.nd rfl (Or.inl rfl) (pe_op op_cat (pv 13) (pe_lc (own := [("_law_k", 16)]) rfl sc_law.nd (pi_range1 (by rfl) T.b_range (pa_cons pe_int pa_nil)) (blkOk_by (own := [("_law_k", 16)]) (N := n_law) (sc := defScope s_law) (scope := { kind := PySem.ScopeKind.function, names := [ (PySem.Str.ofString ".0", PySem.NameKind.local), (PySem.Str.ofString "_law_k", PySem.NameKind.local), (PySem.Str.ofString "_law_drawn", PySem.NameKind.globalImplicit), (PySem.Str.ofString "_law_high", PySem.NameKind.free), (PySem.Str.ofString "_law_low", PySem.NameKind.free), (PySem.Str.ofString "_law_state", PySem.NameKind.free)], isGenerator := false, isCoroutine := false, more := [] : PySem.Scope }) (by decide +kernel)) (fun _ _ _ _ _ => (pg_name (i := 16) sc_law.nd rfl (Or.inl rfl))) (fun _ _ _ _ _ => pts_nil) (fun _ _ _ _ _ => (pe_op op_add (pv 11) (pe_call (ok__law_drawn T) (hr.mono (by decide)) (by rfl) T.g__law_drawn T.F__law_drawn.kp T.b__law_drawn .nil pass0 (pa_cons (pv 1) (pa_cons (pe_op op_mul pe_int (pv 3)) pa_nil))))))))))
      (pss_one (ps_for PassesOwn.never rfl (pi_listK K rfl (pv 13)) (pg_name (i := 14) sc_law.nd rfl (Or.inl rfl)) (pss_cons (ps_set (i := 15) sc_law.nd rfl (Or.inl rfl) (pe_call (ok_round_profit T) (hr.mono (by decide)) (by rfl) T.g_round_profit T.F_round_profit.kp T.b_round_profit .nil pass0 (pa_cons (pe_meth (pv 7) T.cl_Bakery T.m_Bakery_baking_more (ok_Bakery_baking_more T) (hr.mono (by decide)) T.b_Bakery_baking_more .nil pass0 (pa_cons (pv 14) pa_nil)) (pa_cons (pv 8) pa_nil))))
      (pss_one (ps_if (PW.pt (pw_or (pt_cmpR op_gt (pv 15) (pv 10) (nomark _)) (pw_or1 (PW.pt (pw_and (pt_cmpR op_eq (pv 15) (pv 10) (nomark _)) (pw_and1 (pt_cmpR op_lt (pv 14) (pv 9) (nomark _)))))))) (pss_one (ps_ret pe_bl)) pss_nil)))))))))))))))
      (pss_one (ps_ret pe_bl)))), ?_⟩
    refine ⟨_, rfl, l, cells, rfl, hS, hn, fun h H1 hh e1 hs1 => ?_⟩
    refine q_forR1 (n := 2) (ea_cons ev_c ea_nil) ⟨by decide, by decide⟩ (fun _ σ' H' => (∃ x2 x3 x4 x5 x6 x7 x8 x9 x10 x11 x12 x13 x14 x15 x16, σ' = [some (.ref l), some (.ref h), x2, x3, x4, x5, x6, x7, x8, x9, x10, x11, x12, x13, x14, x15, x16]) ∧ HS H' h l ∧ SqL K (wn H' (hl h l)) l (cells.map V.int))
      (fun H2 e2 => ⟨⟨_, _, _, _, _, _, _, _, _, _, _, _, _, _, _, rfl⟩, hs1.mono e2, sql_wn hh hS (e1.trans e2)⟩) ?_ (fun σ' H' q => ?_)
    · rintro turn σ' H0 ht ⟨⟨_, _, _, _, _, _, _, _, _, _, _, _, _, _, _, rfl⟩, hs0, hc0⟩
      -- the greatest amount, the size
      refine x_pairI (A := fun i => i = 10 ∨ i = 100000000) (B := fun i => 1 ≤ i ∧ i < 6) hs0 ((xi_pick (K := K) (n := 2) (ns := [10, 100000000]) (B := fun i => 0 ≤ i ∧ i < 2) (el_lst (ea_cons ev_c (ea_cons (Ev.int_eq (ev_op ev_c ev_c (rv_I ⟨by decide, by decide, by decide⟩)) p8) ea_nil)) (by show 2 ≤ 100000; decide))
        (xi_dr (cells := cells) hc0 (fun G => ev_var rfl) (xi_ev ev_c rfl) (by decide) (by decide)) (fun i q => by simpa using q)).imp fun i q => by simpa using q)
        (xi_op0 (A := fun i => i = 1) (xi_ev ev_c rfl) (xi_dr (cells := cells) (n := 5) hc0 (fun G => ev_var rfl) (xi_ev ev_c rfl) (by decide) (by decide)) (fun i j a b => by omega)) fun high size H2 d2 hh2 hsz => ?_
      have hc2 := ex_l d2.ex hc0
      -- the amounts
      refine x_par d2.hs (x_amounts (cells := cells) (n := size) (w := high) hc2 (fun G => ev_var rfl) (ev_var rfl) (ev_var rfl) (by omega) (by omega) (by omega) (by omega)) (x_amounts (cells := cells) (n := size) (w := high) hc2 (fun G => ev_var rfl) (ev_var rfl) (ev_var rfl) (by omega) (by omega) (by omega) (by omega)) fun v v' H3 H4 d3 d4 ⟨pb, bs, ev, hb3, lb, mb⟩ ⟨pd, ds, ev', hd4, ld, md⟩ => ?_
      subst ev ev'
      have d34 := d3.trans d4
      have hc4 := ex_l d34.ex hc2
      have hb4 : SqT K (wn H4 (hl h l)) pb (bs.map V.int) := ex_t d4.ex (st_of hb3)
      have hd4 : SqT K (wn H4 (hl h l)) pd (ds.map V.int) := st_of hd4
      have gd : Good bs ds := ⟨by omega, by omega, by omega, fun x hx => by have := mb x hx; omega, fun x hx => by have := md x hx; omega⟩
      -- the bakery
      refine q_bakD (K := K) (Z := Z) (A := fun i => 1 ≤ i ∧ i ≤ 30) d34.hs (fun G => ev_var rfl) (fun G => ev_var rfl) (xi_op0 (A := fun i => i = 1) (B := fun i => 0 ≤ i ∧ i < 30) (xi_ev ev_c rfl) (xi_drA (cells := cells) (n := 30) (A := fun i => i ∈ ([3, 30] : List Int)) hc4 (fun G => ev_var rfl) (xi_pick (K := K) (n := 2) (ns := [3, 30]) (B := fun i => 0 ≤ i ∧ i < 2) (el_lst (ea_cons ev_c (ea_cons ev_c ea_nil)) (by show 2 ≤ 100000; decide)) (xi_dr (cells := cells) hc4 (fun G => ev_var rfl) (xi_ev ev_c rfl) (by decide) (by decide)) (fun i q => by simpa using q)) (fun i q => by simp at q; omega) (by decide)) (fun i j a b => by omega))
        hb4 hd4 gd (fun i q => q) fun b ix life H5 d5 hB5 hli => ?_
      have hc5 := ex_l d5.ex hc4
      -- the prices
      refine q_priD (K := K) (Z := Z) d5.hs (xi_dr (cells := cells) (n := 12) hc5 (fun G => ev_var rfl) (xi_ev ev_c rfl) (by decide) (by decide)) (xi_dr (cells := cells) (n := 6) hc5 (fun G => ev_var rfl) (xi_ev ev_c rfl) (by decide) (by decide)) (xi_dr (cells := cells) (n := 6) hc5 (fun G => ev_var rfl) (xi_ev ev_c rfl) (by decide) (by decide)) (fun a b c ha hb hc => flt_in (by omega) (by omega) (by omega)) fun p s0 s1 s2 H6 d6 hP6 hs0' hs1' hs2' => ?_
      have hc6 := ex_l d6.ex hc5
      have hB6 := hB5.mono d6.ex
      have hb6 := ex_t (d5.trans d6).ex hb4
      have hs6 := d6.hs
      have hpn : ∀ k, 0 ≤ [s0, s1, s2].getD k 0 ∧ [s0, s1, s2].getD k 0 ≤ 1000000 := fun k => by
        match k with
        | 0 => show 0 ≤ s0 ∧ s0 ≤ 1000000; omega
        | 1 => show 0 ≤ s1 ∧ s1 ≤ 1000000; omega
        | 2 => show 0 ≤ s2 ∧ s2 ≤ 1000000; omega
        | k + 3 => simp [List.getD]
      generalize [s0, s1, s2] = ps at hP6 hpn
      clear d2 d3 d4 d34 d5 d6
      -- the best
      refine q_bestG (K := K) (Z := Z) (ev_var rfl) (ev_var rfl) (hB6.mono wn_ex) (hP6.mono wn_ex) hpn fun bot top m H7 hbot hbm htop htm hbest e7 => ?_
      have hs7 := hs6.mono e7
      have w7 : Ex (wn H6 (hl h l)) (wn H7 (hl h l)) := wn_mono e7
      have hc7 := ex_l w7 hc6
      have hB7 := hB6.mono w7
      have hP7 := hP6.mono w7
      have hb7 := ex_t w7 hb6
      obtain ⟨m0, m1, mlt, mle⟩ := hbest
      have b0 := mb bot hbot
      have t0 := mb top htop
      have btop := hbm top htop
      have gdm : ∀ {x : Int}, -bot ≤ x → x ≤ 1000000000 - top → Good (bs.map (· + x)) ds := fun h0 h1 => good_any gd hbm htm h0 h1
      refine q_pair (x := .int (-bot)) (y := .int (1000000000 - top)) (eu_tup (ea_cons (Ev.int_eq (ev_op ev_c (ev_minW0 (ew_of (ev_var rfl) (ex_t wn_ex hb7)) hbot hbm) rv_I0) (by omega)) (ea_cons (ev_op (Ev.int_eq (ev_op ev_c ev_c (rv_I ⟨by decide, by decide, by decide⟩)) p9) (ev_maxW0 (ew_of (ev_var rfl) (ex_t wn_ex hb7)) htop htm) rv_I0) ea_nil)) (by show 2 ≤ 100000; decide)) fun H8 e8 => ?_
      have hs8 := hs7.mono e8
      have w8 : Ex (wn H7 (hl h l)) (wn H8 (hl h l)) := wn_mono e8
      have hc8 := ex_l w8 hc7
      have hB8 := hB7.mono w8
      have hP8 := hP7.mono w8
      -- in its range, and what it gives
      refine q_when (b := false) (et_is (et_or (et_not (et_chainD (ev_var rfl) (ev_var rfl) (ev_var rfl))) fun _ => et_test (ev_op (ev_roundM (ev_var rfl) (hB8.mono wn_ex) (ev_var rfl) (gdm m0 m1) (ev_var rfl) (hP8.mono wn_ex) hpn) (ev_var rfl) (rv_ne rfl))) (by simp [m0, m1])) (fun hb => nomatch hb) fun _ H9 e9 => ?_
      have hs9 := hs8.mono e9
      have w9 : Ex (wn H8 (hl h l)) (wn H9 (hl h l)) := wn_mono e9
      have hc9 := ex_l w9 hc8
      have hB9 := hB8.mono w9
      have hP9 := hP8.mono w9
      -- others
      refine q_asgL (xs := [max (-bot) (m - 1), min (1000000000 - top) (m + 1), -bot, 0].map V.int) (el_lst (ea_cons (ev_maxi (ev_var rfl) (ev_op (ev_var rfl) ev_c rv_I0)) (ea_cons (ev_min2 (ev_var rfl) (ev_op (ev_var rfl) ev_c rv_I0)) (ea_cons (ev_var rfl) (ea_cons ev_c ea_nil)))) (by show 4 ≤ 100000; decide)) fun q H10 nq e10 hq => ?_
      have hs10 := hs9.mono e10
      have w10 : Ex (wn H9 (hl h l)) (wn H10 (hl h l)) := wn_mono e10
      have hc10 := ex_l w10 hc9
      have hB10 := hB9.mono w10
      have hP10 := hP9.mono w10
      have nhq : ¬ hl h l q := hl_new (G' := H10) hs9 nq
      have hqw : wn H10 (hl h l) q = some (.lst ([max (-bot) (m - 1), min (1000000000 - top) (m + 1), -bot, 0].map V.int)) := (wn_ni nhq).trans hq
      have in4 : ∀ x ∈ [max (-bot) (m - 1), min (1000000000 - top) (m + 1), -bot, 0], -bot ≤ x ∧ x ≤ 1000000000 - top := fun x hx => by
        simp only [List.mem_cons, List.not_mem_nil, or_false] at hx
        rcases hx with rfl | rfl | rfl | rfl <;> omega
      have len4 : [max (-bot) (m - 1), min (1000000000 - top) (m + 1), -bot, 0].length = 4 := rfl
      generalize [max (-bot) (m - 1), min (1000000000 - top) (m + 1), -bot, 0] = os0 at hq hqw in4 len4
      refine q_ifK (b := decide (high = 10)) (M := fun σ' H' => ∃ (r : Addr) (os : List Int) (y14 y15 y16 : Option V), σ' = [some (.ref l), some (.ref h), some (.int turn), some (.int high), some (.int size), some (.ref pb), some (.ref pd), some (.ref b), some (.ref p), some (.int m), some (.int (prf ps bs ds life m)), some (.int (-bot)), some (.int (1000000000 - top)), some (.ref r), y14, y15, y16] ∧ HS H' h l ∧ Ex (wn H10 (hl h l)) (wn H' (hl h l)) ∧ SqL K H' r (os.map V.int) ∧ ∀ x ∈ os, -bot ≤ x ∧ x ≤ 1000000000 - top)
        (et_test (ev_is (ev_op (ev_var rfl) ev_c (rv_eq rfl)) ?_)) (fun σ' H' hM => ?_) (fun hb H11 e11 fin => ?_) (fun hb H11 e11 fin => ?_)
      · have z : (V.int high = V.int 10) ↔ high = 10 := ⟨fun z => by injection z, fun z => by rw [z]⟩
        simp [z]
      · obtain ⟨r, os, y14, y15, y16, rfl, hsM, wM, hr, hos⟩ := hM
        have hBM := hB10.mono wM
        have hPM := hP10.mono wM
        have hcM := ex_l wM hc10
        refine s_forLn (ev_var rfl) hr (fun _ σ' H2 => (∃ y14 y15 y16, σ' = [some (.ref l), some (.ref h), some (.int turn), some (.int high), some (.int size), some (.ref pb), some (.ref pd), some (.ref b), some (.ref p), some (.int m), some (.int (prf ps bs ds life m)), some (.int (-bot)), some (.int (1000000000 - top)), some (.ref r), y14, y15, y16]) ∧ Ex H' H2) (fun H2 e2 => ⟨⟨_, _, _, rfl⟩, e2⟩) (fun _ _ H2 _ q => ex_l q.2 hr) ?_ ?_
        · rintro ix x σ' H2 hx ⟨⟨_, _, _, rfl⟩, e2⟩
          obtain ⟨rfl, hlt⟩ := at_map hx
          have hin : os.getD ix 0 ∈ os := by
            have e : os.getD ix 0 = os[ix] := by simp [List.getD, hlt]
            rw [e]; exact List.getElem_mem hlt
          obtain ⟨x0, x1⟩ := hos _ hin
          generalize os.getD ix 0 = x at x0 x1 ⊢
          refine q_asg (ev_roundM (ev_var rfl) (hBM.mono (wn_ex.trans e2)) (ev_var rfl) (gdm x0 x1) (ev_var rfl) (hPM.mono (wn_ex.trans e2)) hpn) fun H3 e3 => ?_
          refine s_when (b := false) (et_is (et_or (et_test (ev_op (ev_var rfl) (ev_var rfl) rv_I0)) fun _ => et_and (et_test (ev_op (ev_var rfl) (ev_var rfl) (rv_eq rfl))) fun _ => et_test (ev_op (ev_var rfl) (ev_var rfl) rv_I0)) ?_) (fun hb => nomatch hb) fun _ H4 e4 => ⟨⟨_, _, _, rfl⟩, (e2.trans e3).trans e4⟩
          have hle : prf ps bs ds life x ≤ prf ps bs ds life m := by
            rcases Int.lt_or_le x m with z | z
            · exact Int.le_of_lt (mlt x x0 z)
            · exact mle x z x1
          have z : (V.int (prf ps bs ds life x) = V.int (prf ps bs ds life m)) ↔ prf ps bs ds life x = prf ps bs ds life m := ⟨fun z => by injection z, fun z => by rw [z]⟩
          have hnl : ¬ prf ps bs ds life m < prf ps bs ds life x := by omega
          by_cases q : x < m
          · have := mlt x x0 q
            have ne : ¬ prf ps bs ds life x = prf ps bs ds life m := by omega
            simp [z, hnl, ne]
          · simp [hnl, q]
        · rintro σ' H2 ⟨⟨_, _, _, rfl⟩, e2⟩
          exact ⟨⟨_, _, _, _, _, _, _, _, _, _, _, _, _, _, _, rfl⟩, hsM.mono e2, ex_l (wn_mono e2) hcM⟩
      all_goals
        have hs11 := hs10.mono e11
        have w11 : Ex (wn H10 (hl h l)) (wn H11 (hl h l)) := wn_mono e11
      · have h10 : high = 10 := by simpa using hb
        refine s_asgL (xs := os0.map V.int ++ rgV (-bot) 40) (el_cat (ev_var rfl) (e11 _ _ hq) (el_rg (ev_var rfl) ev_c ⟨by omega, by omega, by omega, by omega, by omega⟩) (by rw [List.length_map, rgV_length, len4]; omega)) fun r H12 nr e12 hr => fin _ _ ⟨r, os0 ++ (List.range (40 - (-bot)).toNat).map (fun (i : Nat) => -bot + (i : Int)), _, _, _, rfl, hs11.mono e12, w11.trans (wn_mono e12), sq_of ?_, fun x hx => ?_⟩
        · rw [hr, List.map_append]
          unfold rgV
          rw [List.map_map]; rfl
        · rcases List.mem_append.mp hx with z | z
          · exact in4 x z
          · obtain ⟨j, hj, rfl⟩ := List.mem_map.mp z
            have := List.mem_range.mp hj
            omega
      · have h8 : high = 100000000 := by
          have z : ¬ high = 10 := by simpa using hb
          omega
        have hc11 := ex_l w11 hc10
        refine (x_catL (A := fun ns => ns = os0) (B := fun ns => (ns.length : Int) = 6 ∧ ∀ x ∈ ns, -bot ≤ x ∧ x ≤ 1000000000 - top) (x_vL (fun G => ev_var rfl) (w11 _ _ hqw) rfl) (x_lcR (A := fun x => -bot ≤ x ∧ x ≤ 1000000000 - top) (n := 6) (ea_cons ev_c ea_nil) ⟨by decide, by decide⟩ (fun _ => rfl) (fun i G dG hi => xi_op0 (A := fun i => i = -bot) (B := fun v => 0 ≤ v ∧ v < 200000000) (xi_ev (ev_var rfl) rfl)
          (xi_dr (cells := cells) (n := 200000000) (ex_l dG.ex hc11) (fun G => ev_var rfl) (xi_ev (ev_op ev_c (ev_var rfl) (rv_I (wide_ok (by omega)))) (by omega)) (by decide) (by decide)) (fun i j a b => by omega))) (fun as bs ha hb => by subst ha; omega)) H11 (Dr.refl hs11) _ fun v H12 d12 ⟨r, ns, ev, hr, as, os2, en, eas, l6, m6⟩ => ?_
        subst ev eas en
        refine fin _ _ ⟨r, as ++ os2, _, _, _, rfl, d12.hs, w11.trans d12.ex, sq_of (wn_ex _ _ hr), fun x hx => ?_⟩
        rcases List.mem_append.mp hx with z | z
        · exact in4 x z
        · exact m6 x z
    · exact s_ret ev_c fun H2 _ => k H2
end Sw
namespace Sw
open PySem PySem.Spec PyProof.Rows L2 Evl
theorem all_mk {l : PySem.W.OpenLaw} {w : World} {K : PySem.W.Frag} {h : Heap} {mg : Str → Option Value} {fa c_Course c_Prices c_Bakery f_count_keepable f_Course___init__ f_Course_find_settled f_Course_sum_settled_round f_Course__play_round f_Course__stocks_in f_Course__misses_in f_Course__count_growing f_check_number f_check_amounts f_check_life f_check_bakery f_Bakery___init__ f_Bakery_bakes pr_Bakery_bakes f_Bakery_long_run pr_Bakery_long_run f_Bakery_baking_more f_check_price f_Prices___init__ f_Prices_cents pr_Prices_cents f_Prices___call__ f_round_profit f_best_more f__law_start f__law_drawn f__law_amounts f_law : Addr} (X : K.In h) (G : h.Ns mainGlobals mg) (hfa : mg "law" = some (.ref fa))
    {tk_cv_Bakery_MAX_DAYS : Tok}
    {tk_cv_Bakery_MAX_LIFE : Tok}
    {t_MOST_LOAVES : Tok}
    {t_MOST_CENTS : Tok}
    {od_count_keepable an_count_keepable : Option Addr} {sl_count_keepable : Array (Option Value)} {oc_count_keepable kV_count_keepable dc_count_keepable pm_count_keepable cd_count_keepable ct_count_keepable : Value}
    {od_Course___init__ an_Course___init__ : Option Addr} {sl_Course___init__ : Array (Option Value)} {oc_Course___init__ kV_Course___init__ dc_Course___init__ pm_Course___init__ cd_Course___init__ ct_Course___init__ : Value}
    {od_Course_find_settled an_Course_find_settled : Option Addr} {sl_Course_find_settled : Array (Option Value)} {oc_Course_find_settled kV_Course_find_settled dc_Course_find_settled pm_Course_find_settled cd_Course_find_settled ct_Course_find_settled : Value}
    {od_Course_sum_settled_round an_Course_sum_settled_round : Option Addr} {sl_Course_sum_settled_round : Array (Option Value)} {oc_Course_sum_settled_round kV_Course_sum_settled_round dc_Course_sum_settled_round pm_Course_sum_settled_round cd_Course_sum_settled_round ct_Course_sum_settled_round : Value}
    {od_Course__play_round an_Course__play_round : Option Addr} {sl_Course__play_round : Array (Option Value)} {oc_Course__play_round kV_Course__play_round dc_Course__play_round pm_Course__play_round cd_Course__play_round ct_Course__play_round : Value}
    {od_Course__stocks_in an_Course__stocks_in : Option Addr} {sl_Course__stocks_in : Array (Option Value)} {oc_Course__stocks_in kV_Course__stocks_in dc_Course__stocks_in pm_Course__stocks_in cd_Course__stocks_in ct_Course__stocks_in : Value}
    {od_Course__misses_in an_Course__misses_in : Option Addr} {sl_Course__misses_in : Array (Option Value)} {oc_Course__misses_in kV_Course__misses_in dc_Course__misses_in pm_Course__misses_in cd_Course__misses_in ct_Course__misses_in : Value}
    {od_Course__count_growing an_Course__count_growing : Option Addr} {sl_Course__count_growing : Array (Option Value)} {oc_Course__count_growing kV_Course__count_growing dc_Course__count_growing pm_Course__count_growing cd_Course__count_growing ct_Course__count_growing : Value}
    {od_check_number an_check_number : Option Addr} {sl_check_number : Array (Option Value)} {oc_check_number kV_check_number dc_check_number pm_check_number cd_check_number ct_check_number : Value}
    {od_check_amounts an_check_amounts : Option Addr} {sl_check_amounts : Array (Option Value)} {oc_check_amounts kV_check_amounts dc_check_amounts pm_check_amounts cd_check_amounts ct_check_amounts : Value}
    {od_check_life an_check_life : Option Addr} {sl_check_life : Array (Option Value)} {oc_check_life kV_check_life dc_check_life pm_check_life cd_check_life ct_check_life : Value}
    {od_check_bakery an_check_bakery : Option Addr} {sl_check_bakery : Array (Option Value)} {oc_check_bakery kV_check_bakery dc_check_bakery pm_check_bakery cd_check_bakery ct_check_bakery : Value}
    {od_Bakery___init__ an_Bakery___init__ : Option Addr} {sl_Bakery___init__ : Array (Option Value)} {oc_Bakery___init__ kV_Bakery___init__ dc_Bakery___init__ pm_Bakery___init__ cd_Bakery___init__ ct_Bakery___init__ : Value}
    {od_Bakery_bakes an_Bakery_bakes : Option Addr} {sl_Bakery_bakes : Array (Option Value)} {oc_Bakery_bakes kV_Bakery_bakes dc_Bakery_bakes pm_Bakery_bakes cd_Bakery_bakes ct_Bakery_bakes : Value}
    {rs_Bakery_bakes : List Value}
    {od_Bakery_long_run an_Bakery_long_run : Option Addr} {sl_Bakery_long_run : Array (Option Value)} {oc_Bakery_long_run kV_Bakery_long_run dc_Bakery_long_run pm_Bakery_long_run cd_Bakery_long_run ct_Bakery_long_run : Value}
    {rs_Bakery_long_run : List Value}
    {od_Bakery_baking_more an_Bakery_baking_more : Option Addr} {sl_Bakery_baking_more : Array (Option Value)} {oc_Bakery_baking_more kV_Bakery_baking_more dc_Bakery_baking_more pm_Bakery_baking_more cd_Bakery_baking_more ct_Bakery_baking_more : Value}
    {od_check_price an_check_price : Option Addr} {sl_check_price : Array (Option Value)} {oc_check_price kV_check_price dc_check_price pm_check_price cd_check_price ct_check_price : Value}
    {od_Prices___init__ an_Prices___init__ : Option Addr} {sl_Prices___init__ : Array (Option Value)} {oc_Prices___init__ kV_Prices___init__ dc_Prices___init__ pm_Prices___init__ cd_Prices___init__ ct_Prices___init__ : Value}
    {od_Prices_cents an_Prices_cents : Option Addr} {sl_Prices_cents : Array (Option Value)} {oc_Prices_cents kV_Prices_cents dc_Prices_cents pm_Prices_cents cd_Prices_cents ct_Prices_cents : Value}
    {rs_Prices_cents : List Value}
    {od_Prices___call__ an_Prices___call__ : Option Addr} {sl_Prices___call__ : Array (Option Value)} {oc_Prices___call__ kV_Prices___call__ dc_Prices___call__ pm_Prices___call__ cd_Prices___call__ ct_Prices___call__ : Value}
    {od_round_profit an_round_profit : Option Addr} {sl_round_profit : Array (Option Value)} {oc_round_profit kV_round_profit dc_round_profit pm_round_profit cd_round_profit ct_round_profit : Value}
    {od_best_more an_best_more : Option Addr} {sl_best_more : Array (Option Value)} {oc_best_more kV_best_more dc_best_more pm_best_more cd_best_more ct_best_more : Value}
    {od__law_start an__law_start : Option Addr} {sl__law_start : Array (Option Value)} {oc__law_start kV__law_start dc__law_start pm__law_start cd__law_start ct__law_start : Value}
    {od__law_drawn an__law_drawn : Option Addr} {sl__law_drawn : Array (Option Value)} {oc__law_drawn kV__law_drawn dc__law_drawn pm__law_drawn cd__law_drawn ct__law_drawn : Value}
    {od__law_amounts an__law_amounts : Option Addr} {sl__law_amounts : Array (Option Value)} {oc__law_amounts kV__law_amounts dc__law_amounts pm__law_amounts cd__law_amounts ct__law_amounts : Value}
    {od_law an_law : Option Addr} {sl_law : Array (Option Value)} {oc_law kV_law dc_law pm_law cd_law ct_law : Value}
    (g_Course : PySem.W.nsIn K mainGlobals "Course" = some (some (.ref c_Course)))
    (pg_Course : PySem.W.plainGet K c_Course Str.empty = true)
    (hd_Course : PySem.W.hasDictIn K c_Course = true)
    (po_Course : PySem.W.plainOver K c_Course = true)
    (sa_Course : PySem.W.findIn K (.ref c_Course) "__setattr__" = some (some (.builtin "object.__setattr__")))
    (mk_Course : PySem.W.makesIn K c_Course = true)
    (kc_Course : PySem.W.keepIn K (.ref c_Course) = true)
    (g_Prices : PySem.W.nsIn K mainGlobals "Prices" = some (some (.ref c_Prices)))
    (pg_Prices : PySem.W.plainGet K c_Prices Str.empty = true)
    (hd_Prices : PySem.W.hasDictIn K c_Prices = true)
    (po_Prices : PySem.W.plainOver K c_Prices = true)
    (sa_Prices : PySem.W.findIn K (.ref c_Prices) "__setattr__" = some (some (.builtin "object.__setattr__")))
    (mk_Prices : PySem.W.makesIn K c_Prices = true)
    (kc_Prices : PySem.W.keepIn K (.ref c_Prices) = true)
    (g_Bakery : PySem.W.nsIn K mainGlobals "Bakery" = some (some (.ref c_Bakery)))
    (pg_Bakery : PySem.W.plainGet K c_Bakery Str.empty = true)
    (hd_Bakery : PySem.W.hasDictIn K c_Bakery = true)
    (po_Bakery : PySem.W.plainOver K c_Bakery = true)
    (sa_Bakery : PySem.W.findIn K (.ref c_Bakery) "__setattr__" = some (some (.builtin "object.__setattr__")))
    (mk_Bakery : PySem.W.makesIn K c_Bakery = true)
    (kc_Bakery : PySem.W.keepIn K (.ref c_Bakery) = true)
    (na_Course__bakes : PySem.W.findIn K (.ref c_Course) "_bakes" = some none)
    (na_Course__demands : PySem.W.findIn K (.ref c_Course) "_demands" = some none)
    (na_Course__keepable : PySem.W.findIn K (.ref c_Course) "_keepable" = some none)
    (na_Course__gain : PySem.W.findIn K (.ref c_Course) "_gain" = some none)
    (na_Course__first_end : PySem.W.findIn K (.ref c_Course) "_first_end" = some none)
    (na_Course__full_end : PySem.W.findIn K (.ref c_Course) "_full_end" = some none)
    (na_Course__first_misses : PySem.W.findIn K (.ref c_Course) "_first_misses" = some none)
    (na_Course__later_misses : PySem.W.findIn K (.ref c_Course) "_later_misses" = some none)
    (na_Prices__cents : PySem.W.findIn K (.ref c_Prices) "_cents" = some none)
    (na_Bakery__bakes : PySem.W.findIn K (.ref c_Bakery) "_bakes" = some none)
    (na_Bakery__demands : PySem.W.findIn K (.ref c_Bakery) "_demands" = some none)
    (na_Bakery__life : PySem.W.findIn K (.ref c_Bakery) "_life" = some none)
    (na_Bakery_course : PySem.W.findIn K (.ref c_Bakery) "course" = some none)
    (na_Bakery__settled_day : PySem.W.findIn K (.ref c_Bakery) "_settled_day" = some none)
    (na_Bakery__long_run : PySem.W.findIn K (.ref c_Bakery) "_long_run" = some none)
    (rd_Bakery : PySem.W.readsIn K c_Bakery (.type "type") = true)
    (gt_Bakery : PySem.W.specialIn K (.ref c_Bakery) "__getattribute__" = some (some (.builtin "type.__getattribute__")))
    (cv_Bakery_MAX_DAYS : PySem.W.findCls K (.ref c_Bakery) (.type "type") "MAX_DAYS" = some (.val (.int 24 tk_cv_Bakery_MAX_DAYS)))
    (cv_Bakery_MAX_LIFE : PySem.W.findCls K (.ref c_Bakery) (.type "type") "MAX_LIFE" = some (.val (.int 30 tk_cv_Bakery_MAX_LIFE)))
    (g_MOST_LOAVES : PySem.W.nsIn K mainGlobals "MOST_LOAVES" = some (some (.int 1000000000 t_MOST_LOAVES)))
    (g_MOST_CENTS : PySem.W.nsIn K mainGlobals "MOST_CENTS" = some (some (.int 1000000 t_MOST_CENTS)))
    (b_enumerate : PySem.W.nsIn K mainGlobals "enumerate" = some none)
    (b_int : PySem.W.nsIn K mainGlobals "int" = some none)
    (b_len : PySem.W.nsIn K mainGlobals "len" = some none)
    (b_list : PySem.W.nsIn K mainGlobals "list" = some none)
    (b_max : PySem.W.nsIn K mainGlobals "max" = some none)
    (b_min : PySem.W.nsIn K mainGlobals "min" = some none)
    (b_range : PySem.W.nsIn K mainGlobals "range" = some none)
    (b_sum : PySem.W.nsIn K mainGlobals "sum" = some none)
    (b_tuple : PySem.W.nsIn K mainGlobals "tuple" = some none)
    (b_zip : PySem.W.nsIn K mainGlobals "zip" = some none)
    (a_count_keepable : PySem.W.nsIn K mainGlobals "count_keepable" = some (some (.ref f_count_keepable)))
    (l_count_keepable : K.lookup f_count_keepable = some ⟨oc_count_keepable, od_count_keepable, .func (PySem.W.fnOf "count_keepable" "count_keepable" (defArgs s_count_keepable) (defBody s_count_keepable) (defScope s_count_keepable) .none kV_count_keepable dc_count_keepable pm_count_keepable an_count_keepable cd_count_keepable ct_count_keepable), sl_count_keepable⟩)
    (q_count_keepable : PySem.W.codeIn K cd_count_keepable "count_keepable" = true)
    (k_count_keepable : PySem.W.keepIn K (.ref f_count_keepable) = true)
    (a_Course___init__ : PySem.W.findIn K (.ref c_Course) "__init__" = some (some (.ref f_Course___init__)))
    (i_Course___init__ : PySem.W.isFn K (.ref f_Course___init__) = true)
    (l_Course___init__ : K.lookup f_Course___init__ = some ⟨oc_Course___init__, od_Course___init__, .func (PySem.W.fnOf "__init__" "Course.__init__" (defArgs s_Course___init__) (defBody s_Course___init__) (defScope s_Course___init__) .none kV_Course___init__ dc_Course___init__ pm_Course___init__ an_Course___init__ cd_Course___init__ ct_Course___init__), sl_Course___init__⟩)
    (q_Course___init__ : PySem.W.codeIn K cd_Course___init__ "Course.__init__" = true)
    (k_Course___init__ : PySem.W.keepIn K (.ref f_Course___init__) = true)
    (a_Course_find_settled : PySem.W.findIn K (.ref c_Course) "find_settled" = some (some (.ref f_Course_find_settled)))
    (i_Course_find_settled : PySem.W.isFn K (.ref f_Course_find_settled) = true)
    (l_Course_find_settled : K.lookup f_Course_find_settled = some ⟨oc_Course_find_settled, od_Course_find_settled, .func (PySem.W.fnOf "find_settled" "Course.find_settled" (defArgs s_Course_find_settled) (defBody s_Course_find_settled) (defScope s_Course_find_settled) .none kV_Course_find_settled dc_Course_find_settled pm_Course_find_settled an_Course_find_settled cd_Course_find_settled ct_Course_find_settled), sl_Course_find_settled⟩)
    (q_Course_find_settled : PySem.W.codeIn K cd_Course_find_settled "Course.find_settled" = true)
    (k_Course_find_settled : PySem.W.keepIn K (.ref f_Course_find_settled) = true)
    (a_Course_sum_settled_round : PySem.W.findIn K (.ref c_Course) "sum_settled_round" = some (some (.ref f_Course_sum_settled_round)))
    (i_Course_sum_settled_round : PySem.W.isFn K (.ref f_Course_sum_settled_round) = true)
    (l_Course_sum_settled_round : K.lookup f_Course_sum_settled_round = some ⟨oc_Course_sum_settled_round, od_Course_sum_settled_round, .func (PySem.W.fnOf "sum_settled_round" "Course.sum_settled_round" (defArgs s_Course_sum_settled_round) (defBody s_Course_sum_settled_round) (defScope s_Course_sum_settled_round) .none kV_Course_sum_settled_round dc_Course_sum_settled_round pm_Course_sum_settled_round an_Course_sum_settled_round cd_Course_sum_settled_round ct_Course_sum_settled_round), sl_Course_sum_settled_round⟩)
    (q_Course_sum_settled_round : PySem.W.codeIn K cd_Course_sum_settled_round "Course.sum_settled_round" = true)
    (k_Course_sum_settled_round : PySem.W.keepIn K (.ref f_Course_sum_settled_round) = true)
    (a_Course__play_round : PySem.W.findIn K (.ref c_Course) "_play_round" = some (some (.ref f_Course__play_round)))
    (i_Course__play_round : PySem.W.isFn K (.ref f_Course__play_round) = true)
    (l_Course__play_round : K.lookup f_Course__play_round = some ⟨oc_Course__play_round, od_Course__play_round, .func (PySem.W.fnOf "_play_round" "Course._play_round" (defArgs s_Course__play_round) (defBody s_Course__play_round) (defScope s_Course__play_round) .none kV_Course__play_round dc_Course__play_round pm_Course__play_round an_Course__play_round cd_Course__play_round ct_Course__play_round), sl_Course__play_round⟩)
    (q_Course__play_round : PySem.W.codeIn K cd_Course__play_round "Course._play_round" = true)
    (k_Course__play_round : PySem.W.keepIn K (.ref f_Course__play_round) = true)
    (a_Course__stocks_in : PySem.W.findIn K (.ref c_Course) "_stocks_in" = some (some (.ref f_Course__stocks_in)))
    (i_Course__stocks_in : PySem.W.isFn K (.ref f_Course__stocks_in) = true)
    (l_Course__stocks_in : K.lookup f_Course__stocks_in = some ⟨oc_Course__stocks_in, od_Course__stocks_in, .func (PySem.W.fnOf "_stocks_in" "Course._stocks_in" (defArgs s_Course__stocks_in) (defBody s_Course__stocks_in) (defScope s_Course__stocks_in) .none kV_Course__stocks_in dc_Course__stocks_in pm_Course__stocks_in an_Course__stocks_in cd_Course__stocks_in ct_Course__stocks_in), sl_Course__stocks_in⟩)
    (q_Course__stocks_in : PySem.W.codeIn K cd_Course__stocks_in "Course._stocks_in" = true)
    (k_Course__stocks_in : PySem.W.keepIn K (.ref f_Course__stocks_in) = true)
    (a_Course__misses_in : PySem.W.findIn K (.ref c_Course) "_misses_in" = some (some (.ref f_Course__misses_in)))
    (i_Course__misses_in : PySem.W.isFn K (.ref f_Course__misses_in) = true)
    (l_Course__misses_in : K.lookup f_Course__misses_in = some ⟨oc_Course__misses_in, od_Course__misses_in, .func (PySem.W.fnOf "_misses_in" "Course._misses_in" (defArgs s_Course__misses_in) (defBody s_Course__misses_in) (defScope s_Course__misses_in) .none kV_Course__misses_in dc_Course__misses_in pm_Course__misses_in an_Course__misses_in cd_Course__misses_in ct_Course__misses_in), sl_Course__misses_in⟩)
    (q_Course__misses_in : PySem.W.codeIn K cd_Course__misses_in "Course._misses_in" = true)
    (k_Course__misses_in : PySem.W.keepIn K (.ref f_Course__misses_in) = true)
    (a_Course__count_growing : PySem.W.findIn K (.ref c_Course) "_count_growing" = some (some (.ref f_Course__count_growing)))
    (i_Course__count_growing : PySem.W.isFn K (.ref f_Course__count_growing) = true)
    (l_Course__count_growing : K.lookup f_Course__count_growing = some ⟨oc_Course__count_growing, od_Course__count_growing, .func (PySem.W.fnOf "_count_growing" "Course._count_growing" (defArgs s_Course__count_growing) (defBody s_Course__count_growing) (defScope s_Course__count_growing) .none kV_Course__count_growing dc_Course__count_growing pm_Course__count_growing an_Course__count_growing cd_Course__count_growing ct_Course__count_growing), sl_Course__count_growing⟩)
    (q_Course__count_growing : PySem.W.codeIn K cd_Course__count_growing "Course._count_growing" = true)
    (k_Course__count_growing : PySem.W.keepIn K (.ref f_Course__count_growing) = true)
    (a_check_number : PySem.W.nsIn K mainGlobals "check_number" = some (some (.ref f_check_number)))
    (l_check_number : K.lookup f_check_number = some ⟨oc_check_number, od_check_number, .func (PySem.W.fnOf "check_number" "check_number" (defArgs s_check_number) (defBody s_check_number) (defScope s_check_number) .none kV_check_number dc_check_number pm_check_number an_check_number cd_check_number ct_check_number), sl_check_number⟩)
    (q_check_number : PySem.W.codeIn K cd_check_number "check_number" = true)
    (k_check_number : PySem.W.keepIn K (.ref f_check_number) = true)
    (a_check_amounts : PySem.W.nsIn K mainGlobals "check_amounts" = some (some (.ref f_check_amounts)))
    (l_check_amounts : K.lookup f_check_amounts = some ⟨oc_check_amounts, od_check_amounts, .func (PySem.W.fnOf "check_amounts" "check_amounts" (defArgs s_check_amounts) (defBody s_check_amounts) (defScope s_check_amounts) .none kV_check_amounts dc_check_amounts pm_check_amounts an_check_amounts cd_check_amounts ct_check_amounts), sl_check_amounts⟩)
    (q_check_amounts : PySem.W.codeIn K cd_check_amounts "check_amounts" = true)
    (k_check_amounts : PySem.W.keepIn K (.ref f_check_amounts) = true)
    (a_check_life : PySem.W.nsIn K mainGlobals "check_life" = some (some (.ref f_check_life)))
    (l_check_life : K.lookup f_check_life = some ⟨oc_check_life, od_check_life, .func (PySem.W.fnOf "check_life" "check_life" (defArgs s_check_life) (defBody s_check_life) (defScope s_check_life) .none kV_check_life dc_check_life pm_check_life an_check_life cd_check_life ct_check_life), sl_check_life⟩)
    (q_check_life : PySem.W.codeIn K cd_check_life "check_life" = true)
    (k_check_life : PySem.W.keepIn K (.ref f_check_life) = true)
    (a_check_bakery : PySem.W.nsIn K mainGlobals "check_bakery" = some (some (.ref f_check_bakery)))
    (l_check_bakery : K.lookup f_check_bakery = some ⟨oc_check_bakery, od_check_bakery, .func (PySem.W.fnOf "check_bakery" "check_bakery" (defArgs s_check_bakery) (defBody s_check_bakery) (defScope s_check_bakery) .none kV_check_bakery dc_check_bakery pm_check_bakery an_check_bakery cd_check_bakery ct_check_bakery), sl_check_bakery⟩)
    (q_check_bakery : PySem.W.codeIn K cd_check_bakery "check_bakery" = true)
    (k_check_bakery : PySem.W.keepIn K (.ref f_check_bakery) = true)
    (a_Bakery___init__ : PySem.W.findIn K (.ref c_Bakery) "__init__" = some (some (.ref f_Bakery___init__)))
    (i_Bakery___init__ : PySem.W.isFn K (.ref f_Bakery___init__) = true)
    (l_Bakery___init__ : K.lookup f_Bakery___init__ = some ⟨oc_Bakery___init__, od_Bakery___init__, .func (PySem.W.fnOf "__init__" "Bakery.__init__" (defArgs s_Bakery___init__) (defBody s_Bakery___init__) (defScope s_Bakery___init__) .none kV_Bakery___init__ dc_Bakery___init__ pm_Bakery___init__ an_Bakery___init__ cd_Bakery___init__ ct_Bakery___init__), sl_Bakery___init__⟩)
    (q_Bakery___init__ : PySem.W.codeIn K cd_Bakery___init__ "Bakery.__init__" = true)
    (k_Bakery___init__ : PySem.W.keepIn K (.ref f_Bakery___init__) = true)
    (a_Bakery_bakes : PySem.W.findIn K (.ref c_Bakery) "bakes" = some (some (.ref pr_Bakery_bakes)))
    (pg_Bakery_bakes : PySem.W.specialIn K (.ref pr_Bakery_bakes) "__get__" = some (some (.builtin "property.__get__")))
    (pt_Bakery_bakes : PySem.W.takesIn K (.ref pr_Bakery_bakes) = some true)
    (pr1_Bakery_bakes : PySem.W.recIn K pr_Bakery_bakes "property" = some (.ref f_Bakery_bakes :: rs_Bakery_bakes))
    (l_Bakery_bakes : K.lookup f_Bakery_bakes = some ⟨oc_Bakery_bakes, od_Bakery_bakes, .func (PySem.W.fnOf "bakes" "Bakery.bakes" (defArgs s_Bakery_bakes) (defBody s_Bakery_bakes) (defScope s_Bakery_bakes) .none kV_Bakery_bakes dc_Bakery_bakes pm_Bakery_bakes an_Bakery_bakes cd_Bakery_bakes ct_Bakery_bakes), sl_Bakery_bakes⟩)
    (q_Bakery_bakes : PySem.W.codeIn K cd_Bakery_bakes "Bakery.bakes" = true)
    (k_Bakery_bakes : PySem.W.keepIn K (.ref f_Bakery_bakes) = true)
    (a_Bakery_long_run : PySem.W.findIn K (.ref c_Bakery) "long_run" = some (some (.ref pr_Bakery_long_run)))
    (pg_Bakery_long_run : PySem.W.specialIn K (.ref pr_Bakery_long_run) "__get__" = some (some (.builtin "property.__get__")))
    (pt_Bakery_long_run : PySem.W.takesIn K (.ref pr_Bakery_long_run) = some true)
    (pr1_Bakery_long_run : PySem.W.recIn K pr_Bakery_long_run "property" = some (.ref f_Bakery_long_run :: rs_Bakery_long_run))
    (l_Bakery_long_run : K.lookup f_Bakery_long_run = some ⟨oc_Bakery_long_run, od_Bakery_long_run, .func (PySem.W.fnOf "long_run" "Bakery.long_run" (defArgs s_Bakery_long_run) (defBody s_Bakery_long_run) (defScope s_Bakery_long_run) .none kV_Bakery_long_run dc_Bakery_long_run pm_Bakery_long_run an_Bakery_long_run cd_Bakery_long_run ct_Bakery_long_run), sl_Bakery_long_run⟩)
    (q_Bakery_long_run : PySem.W.codeIn K cd_Bakery_long_run "Bakery.long_run" = true)
    (k_Bakery_long_run : PySem.W.keepIn K (.ref f_Bakery_long_run) = true)
    (a_Bakery_baking_more : PySem.W.findIn K (.ref c_Bakery) "baking_more" = some (some (.ref f_Bakery_baking_more)))
    (i_Bakery_baking_more : PySem.W.isFn K (.ref f_Bakery_baking_more) = true)
    (l_Bakery_baking_more : K.lookup f_Bakery_baking_more = some ⟨oc_Bakery_baking_more, od_Bakery_baking_more, .func (PySem.W.fnOf "baking_more" "Bakery.baking_more" (defArgs s_Bakery_baking_more) (defBody s_Bakery_baking_more) (defScope s_Bakery_baking_more) .none kV_Bakery_baking_more dc_Bakery_baking_more pm_Bakery_baking_more an_Bakery_baking_more cd_Bakery_baking_more ct_Bakery_baking_more), sl_Bakery_baking_more⟩)
    (q_Bakery_baking_more : PySem.W.codeIn K cd_Bakery_baking_more "Bakery.baking_more" = true)
    (k_Bakery_baking_more : PySem.W.keepIn K (.ref f_Bakery_baking_more) = true)
    (a_check_price : PySem.W.nsIn K mainGlobals "check_price" = some (some (.ref f_check_price)))
    (l_check_price : K.lookup f_check_price = some ⟨oc_check_price, od_check_price, .func (PySem.W.fnOf "check_price" "check_price" (defArgs s_check_price) (defBody s_check_price) (defScope s_check_price) .none kV_check_price dc_check_price pm_check_price an_check_price cd_check_price ct_check_price), sl_check_price⟩)
    (q_check_price : PySem.W.codeIn K cd_check_price "check_price" = true)
    (k_check_price : PySem.W.keepIn K (.ref f_check_price) = true)
    (a_Prices___init__ : PySem.W.findIn K (.ref c_Prices) "__init__" = some (some (.ref f_Prices___init__)))
    (i_Prices___init__ : PySem.W.isFn K (.ref f_Prices___init__) = true)
    (l_Prices___init__ : K.lookup f_Prices___init__ = some ⟨oc_Prices___init__, od_Prices___init__, .func (PySem.W.fnOf "__init__" "Prices.__init__" (defArgs s_Prices___init__) (defBody s_Prices___init__) (defScope s_Prices___init__) .none kV_Prices___init__ dc_Prices___init__ pm_Prices___init__ an_Prices___init__ cd_Prices___init__ ct_Prices___init__), sl_Prices___init__⟩)
    (q_Prices___init__ : PySem.W.codeIn K cd_Prices___init__ "Prices.__init__" = true)
    (k_Prices___init__ : PySem.W.keepIn K (.ref f_Prices___init__) = true)
    (a_Prices_cents : PySem.W.findIn K (.ref c_Prices) "cents" = some (some (.ref pr_Prices_cents)))
    (pg_Prices_cents : PySem.W.specialIn K (.ref pr_Prices_cents) "__get__" = some (some (.builtin "property.__get__")))
    (pt_Prices_cents : PySem.W.takesIn K (.ref pr_Prices_cents) = some true)
    (pr1_Prices_cents : PySem.W.recIn K pr_Prices_cents "property" = some (.ref f_Prices_cents :: rs_Prices_cents))
    (l_Prices_cents : K.lookup f_Prices_cents = some ⟨oc_Prices_cents, od_Prices_cents, .func (PySem.W.fnOf "cents" "Prices.cents" (defArgs s_Prices_cents) (defBody s_Prices_cents) (defScope s_Prices_cents) .none kV_Prices_cents dc_Prices_cents pm_Prices_cents an_Prices_cents cd_Prices_cents ct_Prices_cents), sl_Prices_cents⟩)
    (q_Prices_cents : PySem.W.codeIn K cd_Prices_cents "Prices.cents" = true)
    (k_Prices_cents : PySem.W.keepIn K (.ref f_Prices_cents) = true)
    (a_Prices___call__ : PySem.W.findIn K (.ref c_Prices) "__call__" = some (some (.ref f_Prices___call__)))
    (i_Prices___call__ : PySem.W.isFn K (.ref f_Prices___call__) = true)
    (l_Prices___call__ : K.lookup f_Prices___call__ = some ⟨oc_Prices___call__, od_Prices___call__, .func (PySem.W.fnOf "__call__" "Prices.__call__" (defArgs s_Prices___call__) (defBody s_Prices___call__) (defScope s_Prices___call__) .none kV_Prices___call__ dc_Prices___call__ pm_Prices___call__ an_Prices___call__ cd_Prices___call__ ct_Prices___call__), sl_Prices___call__⟩)
    (q_Prices___call__ : PySem.W.codeIn K cd_Prices___call__ "Prices.__call__" = true)
    (k_Prices___call__ : PySem.W.keepIn K (.ref f_Prices___call__) = true)
    (a_round_profit : PySem.W.nsIn K mainGlobals "round_profit" = some (some (.ref f_round_profit)))
    (l_round_profit : K.lookup f_round_profit = some ⟨oc_round_profit, od_round_profit, .func (PySem.W.fnOf "round_profit" "round_profit" (defArgs s_round_profit) (defBody s_round_profit) (defScope s_round_profit) .none kV_round_profit dc_round_profit pm_round_profit an_round_profit cd_round_profit ct_round_profit), sl_round_profit⟩)
    (q_round_profit : PySem.W.codeIn K cd_round_profit "round_profit" = true)
    (k_round_profit : PySem.W.keepIn K (.ref f_round_profit) = true)
    (a_best_more : PySem.W.nsIn K mainGlobals "best_more" = some (some (.ref f_best_more)))
    (l_best_more : K.lookup f_best_more = some ⟨oc_best_more, od_best_more, .func (PySem.W.fnOf "best_more" "best_more" (defArgs s_best_more) (defBody s_best_more) (defScope s_best_more) .none kV_best_more dc_best_more pm_best_more an_best_more cd_best_more ct_best_more), sl_best_more⟩)
    (q_best_more : PySem.W.codeIn K cd_best_more "best_more" = true)
    (k_best_more : PySem.W.keepIn K (.ref f_best_more) = true)
    (a__law_start : PySem.W.nsIn K mainGlobals "_law_start" = some (some (.ref f__law_start)))
    (l__law_start : K.lookup f__law_start = some ⟨oc__law_start, od__law_start, .func (PySem.W.fnOf "_law_start" "_law_start" (defArgs s__law_start) (defBody s__law_start) (defScope s__law_start) .none kV__law_start dc__law_start pm__law_start an__law_start cd__law_start ct__law_start), sl__law_start⟩)
    (q__law_start : PySem.W.codeIn K cd__law_start "_law_start" = true)
    (k__law_start : PySem.W.keepIn K (.ref f__law_start) = true)
    (a__law_drawn : PySem.W.nsIn K mainGlobals "_law_drawn" = some (some (.ref f__law_drawn)))
    (l__law_drawn : K.lookup f__law_drawn = some ⟨oc__law_drawn, od__law_drawn, .func (PySem.W.fnOf "_law_drawn" "_law_drawn" (defArgs s__law_drawn) (defBody s__law_drawn) (defScope s__law_drawn) .none kV__law_drawn dc__law_drawn pm__law_drawn an__law_drawn cd__law_drawn ct__law_drawn), sl__law_drawn⟩)
    (q__law_drawn : PySem.W.codeIn K cd__law_drawn "_law_drawn" = true)
    (k__law_drawn : PySem.W.keepIn K (.ref f__law_drawn) = true)
    (a__law_amounts : PySem.W.nsIn K mainGlobals "_law_amounts" = some (some (.ref f__law_amounts)))
    (l__law_amounts : K.lookup f__law_amounts = some ⟨oc__law_amounts, od__law_amounts, .func (PySem.W.fnOf "_law_amounts" "_law_amounts" (defArgs s__law_amounts) (defBody s__law_amounts) (defScope s__law_amounts) .none kV__law_amounts dc__law_amounts pm__law_amounts an__law_amounts cd__law_amounts ct__law_amounts), sl__law_amounts⟩)
    (q__law_amounts : PySem.W.codeIn K cd__law_amounts "_law_amounts" = true)
    (k__law_amounts : PySem.W.keepIn K (.ref f__law_amounts) = true)
    (a_law : PySem.W.nsIn K mainGlobals "law" = some (some (.ref f_law)))
    (l_law : K.lookup f_law = some ⟨oc_law, od_law, .func (PySem.W.fnOf "law" "law" (defArgs s_law) (defBody s_law) (defScope s_law) .none kV_law dc_law pm_law an_law cd_law ct_law), sl_law⟩)
    (q_law : PySem.W.codeIn K cd_law "law" = true)
    (k_law : PySem.W.keepIn K (.ref f_law) = true)
    (fn_Prices : PySem.W.fnIn K f_Prices___call__ = true) :
    ∃ fd : FuncData, (∀ (s : Shared) (v : Value), BindsTo s fd ⟨[v], []⟩ [("_law_script", v)]) ∧ ∀ base : Heap, K.In base → base.Ns mainGlobals mg → FnOk l.prog w K mg base CX0 10 fa fd ["_law_script"] (sp_law K) := by
  have e := hfa.symm.trans (PySem.W.mg_of X G a_law)
  cases e
  have F_count_keepable := fun_mk (st := s_count_keepable) l_count_keepable q_count_keepable k_count_keepable
  have B_count_keepable := F_count_keepable.binds (ps := p_count_keepable) fun _ _ _ _ _ _ us hl => match us, hl with | [_, _], _ => rfl
  have F_Course___init__ := fun_mk (st := s_Course___init__) l_Course___init__ q_Course___init__ k_Course___init__
  have B_Course___init__ := F_Course___init__.binds (ps := p_Course___init__) fun _ _ _ _ _ _ us hl => match us, hl with | [_, _, _, _], _ => rfl
  have F_Course_find_settled := fun_mk (st := s_Course_find_settled) l_Course_find_settled q_Course_find_settled k_Course_find_settled
  have B_Course_find_settled := F_Course_find_settled.binds (ps := p_Course_find_settled) fun _ _ _ _ _ _ us hl => match us, hl with | [_], _ => rfl
  have F_Course_sum_settled_round := fun_mk (st := s_Course_sum_settled_round) l_Course_sum_settled_round q_Course_sum_settled_round k_Course_sum_settled_round
  have B_Course_sum_settled_round := F_Course_sum_settled_round.binds (ps := p_Course_sum_settled_round) fun _ _ _ _ _ _ us hl => match us, hl with | [_], _ => rfl
  have F_Course__play_round := fun_mk (st := s_Course__play_round) l_Course__play_round q_Course__play_round k_Course__play_round
  have B_Course__play_round := F_Course__play_round.binds (ps := p_Course__play_round) fun _ _ _ _ _ _ us hl => match us, hl with | [_, _], _ => rfl
  have F_Course__stocks_in := fun_mk (st := s_Course__stocks_in) l_Course__stocks_in q_Course__stocks_in k_Course__stocks_in
  have B_Course__stocks_in := F_Course__stocks_in.binds (ps := p_Course__stocks_in) fun _ _ _ _ _ _ us hl => match us, hl with | [_, _], _ => rfl
  have F_Course__misses_in := fun_mk (st := s_Course__misses_in) l_Course__misses_in q_Course__misses_in k_Course__misses_in
  have B_Course__misses_in := F_Course__misses_in.binds (ps := p_Course__misses_in) fun _ _ _ _ _ _ us hl => match us, hl with | [_, _], _ => rfl
  have F_Course__count_growing := fun_mk (st := s_Course__count_growing) l_Course__count_growing q_Course__count_growing k_Course__count_growing
  have B_Course__count_growing := F_Course__count_growing.binds (ps := p_Course__count_growing) fun _ _ _ _ _ _ us hl => match us, hl with | [_], _ => rfl
  have F_check_number := fun_mk (st := s_check_number) l_check_number q_check_number k_check_number
  have B_check_number := F_check_number.binds (ps := p_check_number) fun _ _ _ _ _ _ us hl => match us, hl with | [_, _, _], _ => rfl
  have F_check_amounts := fun_mk (st := s_check_amounts) l_check_amounts q_check_amounts k_check_amounts
  have B_check_amounts := F_check_amounts.binds (ps := p_check_amounts) fun _ _ _ _ _ _ us hl => match us, hl with | [_, _], _ => rfl
  have F_check_life := fun_mk (st := s_check_life) l_check_life q_check_life k_check_life
  have B_check_life := F_check_life.binds (ps := p_check_life) fun _ _ _ _ _ _ us hl => match us, hl with | [_], _ => rfl
  have F_check_bakery := fun_mk (st := s_check_bakery) l_check_bakery q_check_bakery k_check_bakery
  have B_check_bakery := F_check_bakery.binds (ps := p_check_bakery) fun _ _ _ _ _ _ us hl => match us, hl with | [_, _, _], _ => rfl
  have F_Bakery___init__ := fun_mk (st := s_Bakery___init__) l_Bakery___init__ q_Bakery___init__ k_Bakery___init__
  have B_Bakery___init__ := F_Bakery___init__.binds (ps := p_Bakery___init__) fun _ _ _ _ _ _ us hl => match us, hl with | [_, _, _, _], _ => rfl
  have F_Bakery_bakes := fun_mk (st := s_Bakery_bakes) l_Bakery_bakes q_Bakery_bakes k_Bakery_bakes
  have B_Bakery_bakes := F_Bakery_bakes.binds (ps := p_Bakery_bakes) fun _ _ _ _ _ _ us hl => match us, hl with | [_], _ => rfl
  have F_Bakery_long_run := fun_mk (st := s_Bakery_long_run) l_Bakery_long_run q_Bakery_long_run k_Bakery_long_run
  have B_Bakery_long_run := F_Bakery_long_run.binds (ps := p_Bakery_long_run) fun _ _ _ _ _ _ us hl => match us, hl with | [_], _ => rfl
  have F_Bakery_baking_more := fun_mk (st := s_Bakery_baking_more) l_Bakery_baking_more q_Bakery_baking_more k_Bakery_baking_more
  have B_Bakery_baking_more := F_Bakery_baking_more.binds (ps := p_Bakery_baking_more) fun _ _ _ _ _ _ us hl => match us, hl with | [_, _], _ => rfl
  have F_check_price := fun_mk (st := s_check_price) l_check_price q_check_price k_check_price
  have B_check_price := F_check_price.binds (ps := p_check_price) fun _ _ _ _ _ _ us hl => match us, hl with | [_, _], _ => rfl
  have F_Prices___init__ := fun_mk (st := s_Prices___init__) l_Prices___init__ q_Prices___init__ k_Prices___init__
  have B_Prices___init__ := F_Prices___init__.binds (ps := p_Prices___init__) fun _ _ _ _ _ _ us hl => match us, hl with | [_, _, _, _], _ => rfl
  have F_Prices_cents := fun_mk (st := s_Prices_cents) l_Prices_cents q_Prices_cents k_Prices_cents
  have B_Prices_cents := F_Prices_cents.binds (ps := p_Prices_cents) fun _ _ _ _ _ _ us hl => match us, hl with | [_], _ => rfl
  have F_Prices___call__ := fun_mk (st := s_Prices___call__) l_Prices___call__ q_Prices___call__ k_Prices___call__
  have B_Prices___call__ := F_Prices___call__.binds (ps := p_Prices___call__) fun _ _ _ _ _ _ us hl => match us, hl with | [_, _, _, _], _ => rfl
  have F_round_profit := fun_mk (st := s_round_profit) l_round_profit q_round_profit k_round_profit
  have B_round_profit := F_round_profit.binds (ps := p_round_profit) fun _ _ _ _ _ _ us hl => match us, hl with | [_, _], _ => rfl
  have F_best_more := fun_mk (st := s_best_more) l_best_more q_best_more k_best_more
  have B_best_more := F_best_more.binds (ps := p_best_more) fun _ _ _ _ _ _ us hl => match us, hl with | [_, _], _ => rfl
  have F__law_start := fun_mk (st := s__law_start) l__law_start q__law_start k__law_start
  have B__law_start := F__law_start.binds (ps := p__law_start) fun _ _ _ _ _ _ us hl => match us, hl with | [_], _ => rfl
  have F__law_drawn := fun_mk (st := s__law_drawn) l__law_drawn q__law_drawn k__law_drawn
  have B__law_drawn := F__law_drawn.binds (ps := p__law_drawn) fun _ _ _ _ _ _ us hl => match us, hl with | [_, _], _ => rfl
  have F__law_amounts := fun_mk (st := s__law_amounts) l__law_amounts q__law_amounts k__law_amounts
  have B__law_amounts := F__law_amounts.binds (ps := p__law_amounts) fun _ _ _ _ _ _ us hl => match us, hl with | [_, _, _], _ => rfl
  have F_law := fun_mk (st := s_law) l_law q_law k_law
  have B_law := F_law.binds (ps := p_law) fun _ _ _ _ _ _ us hl => match us, hl with | [_], _ => rfl
  have T : Txt K mg { c_Course := c_Course, mc_Course := .none, c_Prices := c_Prices, mc_Prices := .none, c_Bakery := c_Bakery, mc_Bakery := .type "type", t_MOST_LOAVES := t_MOST_LOAVES, t_MOST_CENTS := t_MOST_CENTS, f_count_keepable := f_count_keepable, d_count_keepable := PySem.W.fnOf "count_keepable" "count_keepable" (defArgs s_count_keepable) (defBody s_count_keepable) (defScope s_count_keepable) .none kV_count_keepable dc_count_keepable pm_count_keepable an_count_keepable cd_count_keepable ct_count_keepable, f_Course___init__ := f_Course___init__, d_Course___init__ := PySem.W.fnOf "__init__" "Course.__init__" (defArgs s_Course___init__) (defBody s_Course___init__) (defScope s_Course___init__) .none kV_Course___init__ dc_Course___init__ pm_Course___init__ an_Course___init__ cd_Course___init__ ct_Course___init__, f_Course_find_settled := f_Course_find_settled, d_Course_find_settled := PySem.W.fnOf "find_settled" "Course.find_settled" (defArgs s_Course_find_settled) (defBody s_Course_find_settled) (defScope s_Course_find_settled) .none kV_Course_find_settled dc_Course_find_settled pm_Course_find_settled an_Course_find_settled cd_Course_find_settled ct_Course_find_settled, f_Course_sum_settled_round := f_Course_sum_settled_round, d_Course_sum_settled_round := PySem.W.fnOf "sum_settled_round" "Course.sum_settled_round" (defArgs s_Course_sum_settled_round) (defBody s_Course_sum_settled_round) (defScope s_Course_sum_settled_round) .none kV_Course_sum_settled_round dc_Course_sum_settled_round pm_Course_sum_settled_round an_Course_sum_settled_round cd_Course_sum_settled_round ct_Course_sum_settled_round, f_Course__play_round := f_Course__play_round, d_Course__play_round := PySem.W.fnOf "_play_round" "Course._play_round" (defArgs s_Course__play_round) (defBody s_Course__play_round) (defScope s_Course__play_round) .none kV_Course__play_round dc_Course__play_round pm_Course__play_round an_Course__play_round cd_Course__play_round ct_Course__play_round, f_Course__stocks_in := f_Course__stocks_in, d_Course__stocks_in := PySem.W.fnOf "_stocks_in" "Course._stocks_in" (defArgs s_Course__stocks_in) (defBody s_Course__stocks_in) (defScope s_Course__stocks_in) .none kV_Course__stocks_in dc_Course__stocks_in pm_Course__stocks_in an_Course__stocks_in cd_Course__stocks_in ct_Course__stocks_in, f_Course__misses_in := f_Course__misses_in, d_Course__misses_in := PySem.W.fnOf "_misses_in" "Course._misses_in" (defArgs s_Course__misses_in) (defBody s_Course__misses_in) (defScope s_Course__misses_in) .none kV_Course__misses_in dc_Course__misses_in pm_Course__misses_in an_Course__misses_in cd_Course__misses_in ct_Course__misses_in, f_Course__count_growing := f_Course__count_growing, d_Course__count_growing := PySem.W.fnOf "_count_growing" "Course._count_growing" (defArgs s_Course__count_growing) (defBody s_Course__count_growing) (defScope s_Course__count_growing) .none kV_Course__count_growing dc_Course__count_growing pm_Course__count_growing an_Course__count_growing cd_Course__count_growing ct_Course__count_growing, f_check_number := f_check_number, d_check_number := PySem.W.fnOf "check_number" "check_number" (defArgs s_check_number) (defBody s_check_number) (defScope s_check_number) .none kV_check_number dc_check_number pm_check_number an_check_number cd_check_number ct_check_number, f_check_amounts := f_check_amounts, d_check_amounts := PySem.W.fnOf "check_amounts" "check_amounts" (defArgs s_check_amounts) (defBody s_check_amounts) (defScope s_check_amounts) .none kV_check_amounts dc_check_amounts pm_check_amounts an_check_amounts cd_check_amounts ct_check_amounts, f_check_life := f_check_life, d_check_life := PySem.W.fnOf "check_life" "check_life" (defArgs s_check_life) (defBody s_check_life) (defScope s_check_life) .none kV_check_life dc_check_life pm_check_life an_check_life cd_check_life ct_check_life, f_check_bakery := f_check_bakery, d_check_bakery := PySem.W.fnOf "check_bakery" "check_bakery" (defArgs s_check_bakery) (defBody s_check_bakery) (defScope s_check_bakery) .none kV_check_bakery dc_check_bakery pm_check_bakery an_check_bakery cd_check_bakery ct_check_bakery, f_Bakery___init__ := f_Bakery___init__, d_Bakery___init__ := PySem.W.fnOf "__init__" "Bakery.__init__" (defArgs s_Bakery___init__) (defBody s_Bakery___init__) (defScope s_Bakery___init__) .none kV_Bakery___init__ dc_Bakery___init__ pm_Bakery___init__ an_Bakery___init__ cd_Bakery___init__ ct_Bakery___init__, f_Bakery_bakes := f_Bakery_bakes, d_Bakery_bakes := PySem.W.fnOf "bakes" "Bakery.bakes" (defArgs s_Bakery_bakes) (defBody s_Bakery_bakes) (defScope s_Bakery_bakes) .none kV_Bakery_bakes dc_Bakery_bakes pm_Bakery_bakes an_Bakery_bakes cd_Bakery_bakes ct_Bakery_bakes, pr_Bakery_bakes := pr_Bakery_bakes, f_Bakery_long_run := f_Bakery_long_run, d_Bakery_long_run := PySem.W.fnOf "long_run" "Bakery.long_run" (defArgs s_Bakery_long_run) (defBody s_Bakery_long_run) (defScope s_Bakery_long_run) .none kV_Bakery_long_run dc_Bakery_long_run pm_Bakery_long_run an_Bakery_long_run cd_Bakery_long_run ct_Bakery_long_run, pr_Bakery_long_run := pr_Bakery_long_run, f_Bakery_baking_more := f_Bakery_baking_more, d_Bakery_baking_more := PySem.W.fnOf "baking_more" "Bakery.baking_more" (defArgs s_Bakery_baking_more) (defBody s_Bakery_baking_more) (defScope s_Bakery_baking_more) .none kV_Bakery_baking_more dc_Bakery_baking_more pm_Bakery_baking_more an_Bakery_baking_more cd_Bakery_baking_more ct_Bakery_baking_more, f_check_price := f_check_price, d_check_price := PySem.W.fnOf "check_price" "check_price" (defArgs s_check_price) (defBody s_check_price) (defScope s_check_price) .none kV_check_price dc_check_price pm_check_price an_check_price cd_check_price ct_check_price, f_Prices___init__ := f_Prices___init__, d_Prices___init__ := PySem.W.fnOf "__init__" "Prices.__init__" (defArgs s_Prices___init__) (defBody s_Prices___init__) (defScope s_Prices___init__) .none kV_Prices___init__ dc_Prices___init__ pm_Prices___init__ an_Prices___init__ cd_Prices___init__ ct_Prices___init__, f_Prices_cents := f_Prices_cents, d_Prices_cents := PySem.W.fnOf "cents" "Prices.cents" (defArgs s_Prices_cents) (defBody s_Prices_cents) (defScope s_Prices_cents) .none kV_Prices_cents dc_Prices_cents pm_Prices_cents an_Prices_cents cd_Prices_cents ct_Prices_cents, pr_Prices_cents := pr_Prices_cents, f_Prices___call__ := f_Prices___call__, d_Prices___call__ := PySem.W.fnOf "__call__" "Prices.__call__" (defArgs s_Prices___call__) (defBody s_Prices___call__) (defScope s_Prices___call__) .none kV_Prices___call__ dc_Prices___call__ pm_Prices___call__ an_Prices___call__ cd_Prices___call__ ct_Prices___call__, f_round_profit := f_round_profit, d_round_profit := PySem.W.fnOf "round_profit" "round_profit" (defArgs s_round_profit) (defBody s_round_profit) (defScope s_round_profit) .none kV_round_profit dc_round_profit pm_round_profit an_round_profit cd_round_profit ct_round_profit, f_best_more := f_best_more, d_best_more := PySem.W.fnOf "best_more" "best_more" (defArgs s_best_more) (defBody s_best_more) (defScope s_best_more) .none kV_best_more dc_best_more pm_best_more an_best_more cd_best_more ct_best_more, f__law_start := f__law_start, d__law_start := PySem.W.fnOf "_law_start" "_law_start" (defArgs s__law_start) (defBody s__law_start) (defScope s__law_start) .none kV__law_start dc__law_start pm__law_start an__law_start cd__law_start ct__law_start, f__law_drawn := f__law_drawn, d__law_drawn := PySem.W.fnOf "_law_drawn" "_law_drawn" (defArgs s__law_drawn) (defBody s__law_drawn) (defScope s__law_drawn) .none kV__law_drawn dc__law_drawn pm__law_drawn an__law_drawn cd__law_drawn ct__law_drawn, f__law_amounts := f__law_amounts, d__law_amounts := PySem.W.fnOf "_law_amounts" "_law_amounts" (defArgs s__law_amounts) (defBody s__law_amounts) (defScope s__law_amounts) .none kV__law_amounts dc__law_amounts pm__law_amounts an__law_amounts cd__law_amounts ct__law_amounts, f_law := fa, d_law := PySem.W.fnOf "law" "law" (defArgs s_law) (defBody s_law) (defScope s_law) .none kV_law dc_law pm_law an_law cd_law ct_law } :=
    { g_Course := PySem.W.mg_of X G g_Course,
      cl_Course := ⟨pg_Course, hd_Course, po_Course, sa_Course⟩,
      g_Prices := PySem.W.mg_of X G g_Prices,
      cl_Prices := ⟨pg_Prices, hd_Prices, po_Prices, sa_Prices⟩,
      g_Bakery := PySem.W.mg_of X G g_Bakery,
      cl_Bakery := ⟨pg_Bakery, hd_Bakery, po_Bakery, sa_Bakery⟩,
      na_Course__bakes := na_Course__bakes,
      na_Course__demands := na_Course__demands,
      na_Course__keepable := na_Course__keepable,
      na_Course__gain := na_Course__gain,
      na_Course__first_end := na_Course__first_end,
      na_Course__full_end := na_Course__full_end,
      na_Course__first_misses := na_Course__first_misses,
      na_Course__later_misses := na_Course__later_misses,
      na_Prices__cents := na_Prices__cents,
      na_Bakery__bakes := na_Bakery__bakes,
      na_Bakery__demands := na_Bakery__demands,
      na_Bakery__life := na_Bakery__life,
      na_Bakery_course := na_Bakery_course,
      na_Bakery__settled_day := na_Bakery__settled_day,
      na_Bakery__long_run := na_Bakery__long_run,
      cv_Bakery_MAX_DAYS := ⟨⟨rd_Bakery, gt_Bakery⟩, _, ⟨cv_Bakery_MAX_DAYS, ⟨_, rfl⟩⟩⟩,
      cv_Bakery_MAX_LIFE := ⟨⟨rd_Bakery, gt_Bakery⟩, _, ⟨cv_Bakery_MAX_LIFE, ⟨_, rfl⟩⟩⟩,
      g_MOST_LOAVES := PySem.W.mg_of X G g_MOST_LOAVES,
      g_MOST_CENTS := PySem.W.mg_of X G g_MOST_CENTS,
      b_enumerate := PySem.W.mg_none_of X G b_enumerate,
      b_int := PySem.W.mg_none_of X G b_int,
      b_len := PySem.W.mg_none_of X G b_len,
      b_list := PySem.W.mg_none_of X G b_list,
      b_max := PySem.W.mg_none_of X G b_max,
      b_min := PySem.W.mg_none_of X G b_min,
      b_range := PySem.W.mg_none_of X G b_range,
      b_sum := PySem.W.mg_none_of X G b_sum,
      b_tuple := PySem.W.mg_none_of X G b_tuple,
      b_zip := PySem.W.mg_none_of X G b_zip,
      co_Prices := ⟨a_Prices___call__, i_Prices___call__, fn_Prices⟩,
      g_count_keepable := PySem.W.mg_of X G a_count_keepable,
      F_count_keepable := F_count_keepable,
      b_count_keepable := B_count_keepable,
      mk_Course := ⟨mk_Course, a_Course___init__, i_Course___init__, kc_Course⟩,
      F_Course___init__ := F_Course___init__,
      b_Course___init__ := B_Course___init__,
      m_Course_find_settled := ⟨a_Course_find_settled, i_Course_find_settled, k_Course_find_settled⟩,
      F_Course_find_settled := F_Course_find_settled,
      b_Course_find_settled := B_Course_find_settled,
      m_Course_sum_settled_round := ⟨a_Course_sum_settled_round, i_Course_sum_settled_round, k_Course_sum_settled_round⟩,
      F_Course_sum_settled_round := F_Course_sum_settled_round,
      b_Course_sum_settled_round := B_Course_sum_settled_round,
      m_Course__play_round := ⟨a_Course__play_round, i_Course__play_round, k_Course__play_round⟩,
      F_Course__play_round := F_Course__play_round,
      b_Course__play_round := B_Course__play_round,
      m_Course__stocks_in := ⟨a_Course__stocks_in, i_Course__stocks_in, k_Course__stocks_in⟩,
      F_Course__stocks_in := F_Course__stocks_in,
      b_Course__stocks_in := B_Course__stocks_in,
      m_Course__misses_in := ⟨a_Course__misses_in, i_Course__misses_in, k_Course__misses_in⟩,
      F_Course__misses_in := F_Course__misses_in,
      b_Course__misses_in := B_Course__misses_in,
      m_Course__count_growing := ⟨a_Course__count_growing, i_Course__count_growing, k_Course__count_growing⟩,
      F_Course__count_growing := F_Course__count_growing,
      b_Course__count_growing := B_Course__count_growing,
      g_check_number := PySem.W.mg_of X G a_check_number,
      F_check_number := F_check_number,
      b_check_number := B_check_number,
      g_check_amounts := PySem.W.mg_of X G a_check_amounts,
      F_check_amounts := F_check_amounts,
      b_check_amounts := B_check_amounts,
      g_check_life := PySem.W.mg_of X G a_check_life,
      F_check_life := F_check_life,
      b_check_life := B_check_life,
      g_check_bakery := PySem.W.mg_of X G a_check_bakery,
      F_check_bakery := F_check_bakery,
      b_check_bakery := B_check_bakery,
      mk_Bakery := ⟨mk_Bakery, a_Bakery___init__, i_Bakery___init__, kc_Bakery⟩,
      F_Bakery___init__ := F_Bakery___init__,
      b_Bakery___init__ := B_Bakery___init__,
      pp_Bakery_bakes := ⟨a_Bakery_bakes, pg_Bakery_bakes, pt_Bakery_bakes, ⟨_, pr1_Bakery_bakes⟩⟩,
      F_Bakery_bakes := F_Bakery_bakes,
      b_Bakery_bakes := B_Bakery_bakes,
      pp_Bakery_long_run := ⟨a_Bakery_long_run, pg_Bakery_long_run, pt_Bakery_long_run, ⟨_, pr1_Bakery_long_run⟩⟩,
      F_Bakery_long_run := F_Bakery_long_run,
      b_Bakery_long_run := B_Bakery_long_run,
      m_Bakery_baking_more := ⟨a_Bakery_baking_more, i_Bakery_baking_more, k_Bakery_baking_more⟩,
      F_Bakery_baking_more := F_Bakery_baking_more,
      b_Bakery_baking_more := B_Bakery_baking_more,
      g_check_price := PySem.W.mg_of X G a_check_price,
      F_check_price := F_check_price,
      b_check_price := B_check_price,
      mk_Prices := ⟨mk_Prices, a_Prices___init__, i_Prices___init__, kc_Prices⟩,
      F_Prices___init__ := F_Prices___init__,
      b_Prices___init__ := B_Prices___init__,
      pp_Prices_cents := ⟨a_Prices_cents, pg_Prices_cents, pt_Prices_cents, ⟨_, pr1_Prices_cents⟩⟩,
      F_Prices_cents := F_Prices_cents,
      b_Prices_cents := B_Prices_cents,
      m_Prices___call__ := ⟨a_Prices___call__, i_Prices___call__, k_Prices___call__⟩,
      F_Prices___call__ := F_Prices___call__,
      b_Prices___call__ := B_Prices___call__,
      g_round_profit := PySem.W.mg_of X G a_round_profit,
      F_round_profit := F_round_profit,
      b_round_profit := B_round_profit,
      g_best_more := PySem.W.mg_of X G a_best_more,
      F_best_more := F_best_more,
      b_best_more := B_best_more,
      g__law_start := PySem.W.mg_of X G a__law_start,
      F__law_start := F__law_start,
      b__law_start := B__law_start,
      g__law_drawn := PySem.W.mg_of X G a__law_drawn,
      F__law_drawn := F__law_drawn,
      b__law_drawn := B__law_drawn,
      g__law_amounts := PySem.W.mg_of X G a__law_amounts,
      F__law_amounts := F__law_amounts,
      b__law_amounts := B__law_amounts,
      g_law := PySem.W.mg_of X G a_law,
      F_law := F_law,
      b_law := B_law }
  exact ⟨PySem.W.fnOf "law" "law" (defArgs s_law) (defBody s_law) (defScope s_law) .none kV_law dc_law pm_law an_law cd_law ct_law, fun s v => .of_eq rfl, fun base _ _ => ok_law T⟩
theorem walk {l : PySem.W.OpenLaw} {q : Program} {loose : List Str} {XP : (Str → Option Value) → Heap → Prop} {YP : World → Heap → Prop} {d : DefRec} {K : Params → PySem.W.Frag} (hn : l.most = some 63) (hdf : d.params.defaults = [])
    (hY : ∀ (w : World) (h : Heap), YP w h → (K w.params).In h)
    (F : ∀ (w : World) (mg : Str → Option Value) (fa : Addr) (h : Heap), (K w.params).In h → h.Ns mainGlobals mg → mg d.name = some (.ref fa) →
      ∃ fd : FuncData, (∀ (s : Shared) (u : Value), BindsTo s fd ⟨[u], []⟩ [("_law_script", u)]) ∧ ∀ base : Heap, (K w.params).In base → base.Ns mainGlobals mg → FnOk l.prog w (K w.params) mg base CX0 10 fa fd ["_law_script"] (sp_law (K w.params))) :
    PySem.W.WalkO q loose XP YP l.row.toRowW d [] (fun f vs => PySem.call f vs) :=
  L2.walk_of (n := 63) (k := 10) (x := "_law_script") (CX := fun _ => CX0) (sp := fun w => sp_law (K w.params)) hn (by decide) hdf ⟨rfl, by decide, by decide⟩ hY F (fun _ _ a ns hl _ hS => ⟨a, ns, rfl, hS, hl, fun _ => rfl⟩) fun _ _ _ _ _ z => z
end Sw

open PySem PySem.W PyProof.Rows
set_option maxRecDepth 100000 in
set_option maxHeartbeats 0 in
theorem PySem.Challenge.cw_staleloaves_k45_best_baking_holds : PySem.Challenge.rw_staleloaves_k45_best_baking.Holds := by
  w_on; o_law; k_head; (case hw => w_witness2)
  k_fill
  refine Sw.walk (l := PySem.Challenge.rw_staleloaves_k45_best_baking) rfl rfl (fun w h Y => PySem.W.kIn_of Y) ?F
  case F =>
    intro w mg fa h KX G hmg
    refine' Sw.all_mk KX G hmg ?g_Course ?pg_Course ?hd_Course ?po_Course ?sa_Course ?mk_Course ?kc_Course ?g_Prices ?pg_Prices ?hd_Prices ?po_Prices ?sa_Prices ?mk_Prices ?kc_Prices ?g_Bakery ?pg_Bakery ?hd_Bakery ?po_Bakery ?sa_Bakery ?mk_Bakery ?kc_Bakery ?na_Course__bakes ?na_Course__demands ?na_Course__keepable ?na_Course__gain ?na_Course__first_end ?na_Course__full_end ?na_Course__first_misses ?na_Course__later_misses ?na_Prices__cents ?na_Bakery__bakes ?na_Bakery__demands ?na_Bakery__life ?na_Bakery_course ?na_Bakery__settled_day ?na_Bakery__long_run ?rd_Bakery ?gt_Bakery ?cv_Bakery_MAX_DAYS ?cv_Bakery_MAX_LIFE ?g_MOST_LOAVES ?g_MOST_CENTS ?b_enumerate ?b_int ?b_len ?b_list ?b_max ?b_min ?b_range ?b_sum ?b_tuple ?b_zip ?a_count_keepable ?l_count_keepable ?q_count_keepable ?k_count_keepable ?a_Course___init__ ?i_Course___init__ ?l_Course___init__ ?q_Course___init__ ?k_Course___init__ ?a_Course_find_settled ?i_Course_find_settled ?l_Course_find_settled ?q_Course_find_settled ?k_Course_find_settled ?a_Course_sum_settled_round ?i_Course_sum_settled_round ?l_Course_sum_settled_round ?q_Course_sum_settled_round ?k_Course_sum_settled_round ?a_Course__play_round ?i_Course__play_round ?l_Course__play_round ?q_Course__play_round ?k_Course__play_round ?a_Course__stocks_in ?i_Course__stocks_in ?l_Course__stocks_in ?q_Course__stocks_in ?k_Course__stocks_in ?a_Course__misses_in ?i_Course__misses_in ?l_Course__misses_in ?q_Course__misses_in ?k_Course__misses_in ?a_Course__count_growing ?i_Course__count_growing ?l_Course__count_growing ?q_Course__count_growing ?k_Course__count_growing ?a_check_number ?l_check_number ?q_check_number ?k_check_number ?a_check_amounts ?l_check_amounts ?q_check_amounts ?k_check_amounts ?a_check_life ?l_check_life ?q_check_life ?k_check_life ?a_check_bakery ?l_check_bakery ?q_check_bakery ?k_check_bakery ?a_Bakery___init__ ?i_Bakery___init__ ?l_Bakery___init__ ?q_Bakery___init__ ?k_Bakery___init__ ?a_Bakery_bakes ?pg_Bakery_bakes ?pt_Bakery_bakes ?pr1_Bakery_bakes ?l_Bakery_bakes ?q_Bakery_bakes ?k_Bakery_bakes ?a_Bakery_long_run ?pg_Bakery_long_run ?pt_Bakery_long_run ?pr1_Bakery_long_run ?l_Bakery_long_run ?q_Bakery_long_run ?k_Bakery_long_run ?a_Bakery_baking_more ?i_Bakery_baking_more ?l_Bakery_baking_more ?q_Bakery_baking_more ?k_Bakery_baking_more ?a_check_price ?l_check_price ?q_check_price ?k_check_price ?a_Prices___init__ ?i_Prices___init__ ?l_Prices___init__ ?q_Prices___init__ ?k_Prices___init__ ?a_Prices_cents ?pg_Prices_cents ?pt_Prices_cents ?pr1_Prices_cents ?l_Prices_cents ?q_Prices_cents ?k_Prices_cents ?a_Prices___call__ ?i_Prices___call__ ?l_Prices___call__ ?q_Prices___call__ ?k_Prices___call__ ?a_round_profit ?l_round_profit ?q_round_profit ?k_round_profit ?a_best_more ?l_best_more ?q_best_more ?k_best_more ?a__law_start ?l__law_start ?q__law_start ?k__law_start ?a__law_drawn ?l__law_drawn ?q__law_drawn ?k__law_drawn ?a__law_amounts ?l__law_amounts ?q__law_amounts ?k__law_amounts ?a_law ?l_law ?q_law ?k_law ?fn_Prices
    (case g_Course => k_is)
    (case pg_Course => k_is)
    (case hd_Course => k_is)
    (case po_Course => k_is)
    (case sa_Course => k_is)
    (case mk_Course => k_is)
    (case kc_Course => k_is)
    (case g_Prices => k_is)
    (case pg_Prices => k_is)
    (case hd_Prices => k_is)
    (case po_Prices => k_is)
    (case sa_Prices => k_is)
    (case mk_Prices => k_is)
    (case kc_Prices => k_is)
    (case g_Bakery => k_is)
    (case pg_Bakery => k_is)
    (case hd_Bakery => k_is)
    (case po_Bakery => k_is)
    (case sa_Bakery => k_is)
    (case mk_Bakery => k_is)
    (case kc_Bakery => k_is)
    (case na_Course__bakes => k_is)
    (case na_Course__demands => k_is)
    (case na_Course__keepable => k_is)
    (case na_Course__gain => k_is)
    (case na_Course__first_end => k_is)
    (case na_Course__full_end => k_is)
    (case na_Course__first_misses => k_is)
    (case na_Course__later_misses => k_is)
    (case na_Prices__cents => k_is)
    (case na_Bakery__bakes => k_is)
    (case na_Bakery__demands => k_is)
    (case na_Bakery__life => k_is)
    (case na_Bakery_course => k_is)
    (case na_Bakery__settled_day => k_is)
    (case na_Bakery__long_run => k_is)
    (case rd_Bakery => k_is)
    (case gt_Bakery => k_is)
    (case cv_Bakery_MAX_DAYS => k_is)
    (case cv_Bakery_MAX_LIFE => k_is)
    (case g_MOST_LOAVES => k_is)
    (case g_MOST_CENTS => k_is)
    (case b_enumerate => k_is)
    (case b_int => k_is)
    (case b_len => k_is)
    (case b_list => k_is)
    (case b_max => k_is)
    (case b_min => k_is)
    (case b_range => k_is)
    (case b_sum => k_is)
    (case b_tuple => k_is)
    (case b_zip => k_is)
    (case a_count_keepable => k_is)
    (case l_count_keepable => k_is)
    (case q_count_keepable => k_is)
    (case k_count_keepable => k_is)
    (case a_Course___init__ => k_is)
    (case i_Course___init__ => k_is)
    (case l_Course___init__ => k_is)
    (case q_Course___init__ => k_is)
    (case k_Course___init__ => k_is)
    (case a_Course_find_settled => k_is)
    (case i_Course_find_settled => k_is)
    (case l_Course_find_settled => k_is)
    (case q_Course_find_settled => k_is)
    (case k_Course_find_settled => k_is)
    (case a_Course_sum_settled_round => k_is)
    (case i_Course_sum_settled_round => k_is)
    (case l_Course_sum_settled_round => k_is)
    (case q_Course_sum_settled_round => k_is)
    (case k_Course_sum_settled_round => k_is)
    (case a_Course__play_round => k_is)
    (case i_Course__play_round => k_is)
    (case l_Course__play_round => k_is)
    (case q_Course__play_round => k_is)
    (case k_Course__play_round => k_is)
    (case a_Course__stocks_in => k_is)
    (case i_Course__stocks_in => k_is)
    (case l_Course__stocks_in => k_is)
    (case q_Course__stocks_in => k_is)
    (case k_Course__stocks_in => k_is)
    (case a_Course__misses_in => k_is)
    (case i_Course__misses_in => k_is)
    (case l_Course__misses_in => k_is)
    (case q_Course__misses_in => k_is)
    (case k_Course__misses_in => k_is)
    (case a_Course__count_growing => k_is)
    (case i_Course__count_growing => k_is)
    (case l_Course__count_growing => k_is)
    (case q_Course__count_growing => k_is)
    (case k_Course__count_growing => k_is)
    (case a_check_number => k_is)
    (case l_check_number => k_is)
    (case q_check_number => k_is)
    (case k_check_number => k_is)
    (case a_check_amounts => k_is)
    (case l_check_amounts => k_is)
    (case q_check_amounts => k_is)
    (case k_check_amounts => k_is)
    (case a_check_life => k_is)
    (case l_check_life => k_is)
    (case q_check_life => k_is)
    (case k_check_life => k_is)
    (case a_check_bakery => k_is)
    (case l_check_bakery => k_is)
    (case q_check_bakery => k_is)
    (case k_check_bakery => k_is)
    (case a_Bakery___init__ => k_is)
    (case i_Bakery___init__ => k_is)
    (case l_Bakery___init__ => k_is)
    (case q_Bakery___init__ => k_is)
    (case k_Bakery___init__ => k_is)
    (case a_Bakery_bakes => k_is)
    (case pg_Bakery_bakes => k_is)
    (case pt_Bakery_bakes => k_is)
    (case pr1_Bakery_bakes => k_is)
    (case l_Bakery_bakes => k_is)
    (case q_Bakery_bakes => k_is)
    (case k_Bakery_bakes => k_is)
    (case a_Bakery_long_run => k_is)
    (case pg_Bakery_long_run => k_is)
    (case pt_Bakery_long_run => k_is)
    (case pr1_Bakery_long_run => k_is)
    (case l_Bakery_long_run => k_is)
    (case q_Bakery_long_run => k_is)
    (case k_Bakery_long_run => k_is)
    (case a_Bakery_baking_more => k_is)
    (case i_Bakery_baking_more => k_is)
    (case l_Bakery_baking_more => k_is)
    (case q_Bakery_baking_more => k_is)
    (case k_Bakery_baking_more => k_is)
    (case a_check_price => k_is)
    (case l_check_price => k_is)
    (case q_check_price => k_is)
    (case k_check_price => k_is)
    (case a_Prices___init__ => k_is)
    (case i_Prices___init__ => k_is)
    (case l_Prices___init__ => k_is)
    (case q_Prices___init__ => k_is)
    (case k_Prices___init__ => k_is)
    (case a_Prices_cents => k_is)
    (case pg_Prices_cents => k_is)
    (case pt_Prices_cents => k_is)
    (case pr1_Prices_cents => k_is)
    (case l_Prices_cents => k_is)
    (case q_Prices_cents => k_is)
    (case k_Prices_cents => k_is)
    (case a_Prices___call__ => k_is)
    (case i_Prices___call__ => k_is)
    (case l_Prices___call__ => k_is)
    (case q_Prices___call__ => k_is)
    (case k_Prices___call__ => k_is)
    (case a_round_profit => k_is)
    (case l_round_profit => k_is)
    (case q_round_profit => k_is)
    (case k_round_profit => k_is)
    (case a_best_more => k_is)
    (case l_best_more => k_is)
    (case q_best_more => k_is)
    (case k_best_more => k_is)
    (case a__law_start => k_is)
    (case l__law_start => k_is)
    (case q__law_start => k_is)
    (case k__law_start => k_is)
    (case a__law_drawn => k_is)
    (case l__law_drawn => k_is)
    (case q__law_drawn => k_is)
    (case k__law_drawn => k_is)
    (case a__law_amounts => k_is)
    (case l__law_amounts => k_is)
    (case q__law_amounts => k_is)
    (case k__law_amounts => k_is)
    (case a_law => k_is)
    (case l_law => k_is)
    (case q_law => k_is)
    (case k_law => k_is)
    (case fn_Prices => k_is)
