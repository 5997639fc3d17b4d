import PyProof.Rows.All
import Wide.All
import OpenK.AllK
import Wide.FinOn
import HandS.ForMost
import KE.GoesMore
import KE.GoesEnum
import KE.KTupSum
import HandS.Evl
import HandS.TupAny
import HandS.Wide
import HandS.Style
import HandS.Property
import HandS.ClsMeth
import HandS.WideBits
import HandS.Steps
import HandS.Walk
import HandS.Strs
import HandS.SetFor
import HandS.IsInst
import PySem.Challenge.RW_staleloaves_k12_whole_known_bakeries
set_option Elab.async false
set_option linter.all false
set_option maxRecDepth 100000
set_option maxHeartbeats 4000000
namespace Sw
open PySem PySem.Spec PyProof.Rows L2
/-! ### zip of a tuple, a tuple and a list; enumerate of a tuple -/
def Itz3 (K : PySem.W.Frag) (a b c : Addr) : It :=
  ⟨fun i H => ∃ (xs ys zs : List V) (x y z : V), SqT K H a xs ∧ SqT K H b ys ∧ SqL K H c zs ∧ xs[i]? = some x ∧ ys[i]? = some y ∧ zs[i]? = some z,
    fun i H v H' => ∃ T x y z, v = .ref T ∧ H T = none ∧ H' = upd H T (.tup [x, y, z]) ∧ (∀ xs, SqT K H a xs → xs[i]? = some x) ∧ (∀ ys, SqT K H b ys → ys[i]? = some y) ∧ ∀ zs, SqL K H c zs → zs[i]? = some z,
    fun i H => ∃ xs ys zs : List V, SqT K H a xs ∧ SqT K H b ys ∧ SqL K H c zs ∧ xs.length = i ∧ ys.length = i ∧ zs.length = i⟩
theorem turn_zip3 {P : Program} {w : World} {K : PySem.W.Frag} {elts : List Expr} {kk : Nat} {tpos : Pos} {a b c z TI TO i1 i2 i3 : Addr}
    (D : ZipSep3 z TI TO i1 i2 i3 [i1, a] [i2, b] [i3, c]) (h1a : a ≠ i1) (h2b : b ≠ i2) (h3c : c ≠ i3) :
    Turn P w K (.Tuple elts kk tpos) (Itz3 K a b c) [z, TI, TO, i1, i2, i3] z (fun i h => IsZip h z TI TO .none ∧ IsTupOf3 h TI (.ref i1) (.ref i2) (.ref i3) ∧ (∃ x y u, IsTupOf3 h TO x y u) ∧ h.IsTupleIter i1 a i ∧ h.IsTupleIter i2 b i ∧ h.IsListIter i3 c i) where
  mem := by simp
  obj := fun i h st d hd => by
    obtain ⟨hz, hTI, ⟨x, y, u, hTO⟩, ⟨o1, e1, _, d1⟩, ⟨o2, e2, _, d2⟩, ⟨o3, e3, _, d3⟩⟩ := st
    have e' : d = z ∨ d = TI ∨ d = TO ∨ d = i1 ∨ d = i2 ∨ d = i3 := by simpa using hd
    rcases e' with q | q | q | q | q | q
    · rw [q]; exact ⟨_, hz, fun v q => nomatch q⟩
    · rw [q]; exact ⟨_, hTI, fun v q => nomatch q⟩
    · rw [q]; exact ⟨_, hTO, fun v q => nomatch q⟩
    · rw [q]; exact ⟨o1, e1, fun v q => by rw [d1] at q; cases q⟩
    · rw [q]; exact ⟨o2, e2, fun v q => by rw [d2] at q; cases q⟩
    · rw [q]; exact ⟨o3, e3, fun v q => by rw [d3] at q; cases q⟩
  keep := fun i h h' st k => by
    obtain ⟨hz, hTI, ⟨x, y, u, hTO⟩, h1, h2, h3⟩ := st
    exact ⟨k z (by simp) _ hz, k TI (by simp) _ hTI, ⟨x, y, u, k TO (by simp) _ hTO⟩, h1.at fun o q => k i1 (by simp) o q, h2.at fun o q => k i2 (by simp) o q, h3.at fun o q => k i3 (by simp) o q⟩
  item := by
    intro X hP hw hK hc i pins s σ H E I hf st hg
    subst hP hw hK
    obtain ⟨hz, hTI, ⟨x0, y0, u0, hTO⟩, h1, h2, h3⟩ := st
    obtain ⟨xs, ys, zs, x, y, u, hqx, hqy, hqz, hx, hy, hu⟩ := hg
    obtain ⟨its, rv, p, _⟩ := I.tuple hqx
    obtain ⟨its2, rv2, p2, _⟩ := I.tuple hqy
    obtain ⟨its3, rv3, p3, _⟩ := I.list hqz
    obtain ⟨u1, hu1, ru1⟩ := rv.get hx
    obtain ⟨u2, hu2, ru2⟩ := rv2.get hy
    obtain ⟨u3, hu3, ru3⟩ := rv3.get hu
    have hh : X.A.in1.handled = none := I.ok.hd hc
    have D1 := Draws.tuple (prog := X.prog) (w := X.w) (A := X.A.in1) hh i1 a h1a its.toArray
    have D2 := Draws.tuple (prog := X.prog) (w := X.w) (A := X.A.in1) hh i2 b h2b its2.toArray
    have D3 := Draws.list (prog := X.prog) (w := X.w) (A := X.A.in1) hh i3 c h3c its3.toArray
    have hzl : z < s.heap.objs.size := Heap.lt_size hz
    have lt1 : i < its.toArray.size := by simpa using (List.getElem?_eq_some_iff.mp hu1).1
    have lt2 : i < its2.toArray.size := by simpa using (List.getElem?_eq_some_iff.mp hu2).1
    have lt3 : i < its3.toArray.size := by simpa using (List.getElem?_eq_some_iff.mp hu3).1
    refine wpAny_pyNext_zipD3_item D D1 D2 D3 hz hTI hTO ⟨h1, p⟩ ⟨h2, p2⟩ ⟨h3, p3.isList⟩ lt1 lt2 lt3 fun x1 x2 x3 h' tk q1 q2 q3 z' TO' s1' s2' s3' hT hsz hk => ?_
    have e1 : x1 = u1 := by have q : its[i]? = some x1 := by simpa using q1
                            rw [hu1] at q; exact (Option.some.inj q).symm
    have e2 : x2 = u2 := by have q : its2[i]? = some x2 := by simpa using q2
                            rw [hu2] at q; exact (Option.some.inj q).symm
    have e3 : x3 = u3 := by have q : its3[i]? = some x3 := by simpa using q3
                            rw [hu3] at q; exact (Option.some.inj q).symm
    subst e1 e2 e3
    refine ⟨_, rfl, wpAny_letOwnedTupleGo_zip (s := { s with heap := h', toks := tk }) z' fun h'' z'' sb => ?_⟩
    have hT2 : h''.get? s.heap.objs.size = some { cls := .type "tuple", data := .seq #[x1, x2, x3] } := (sb.2 _ (Nat.ne_of_gt hzl)).trans hT
    have new : ObjOk X.prog X.w (upd H s.heap.objs.size (.tup [x, y, u])) h'' s.heap.objs.size (.tup [x, y, u]) :=
      ⟨by show 3 ≤ sizeLine; decide, [x1, x2, x3], .cons ru1 (.cons ru2 (.cons ru3 .nil)), ⟨_, hT2, rfl, _, rfl⟩⟩
    have I1 : Inv X pins σ (upd H s.heap.objs.size (.tup [x, y, u])) { s with heap := h'', toks := tk } :=
      I.turnedNew (t' := tk) (ch := [z, TI, TO, i1, i2, i3]) (fun d o hb q => (sb.2 d (fun q' => hb (by simp [q']))).trans (hk d o (fun q' => hb (by simp [q'])) (fun q' => hb (by simp [q'])) (fun q' => hb (by simp [q'])) (fun q' => hb (by simp [q'])) (fun q' => hb (by simp [q'])) q)) hf (Nat.le_refl _) new
    refine ⟨.ref s.heap.objs.size, _, I1, rfl, ⟨_, x, y, u, rfl, I.hok.fresh (Nat.le_refl _), rfl, fun l hl => by rw [I.tuple_inj hl hqx]; exact hx, fun l hl => by rw [I.tuple_inj hl hqy]; exact hy, fun l hl => by rw [I.list_inj hl hqz]; exact hu⟩, ⟨z'', ?_, ⟨x1, x2, x3, ?_⟩, ?_, ?_, ?_⟩, fun d hdm => ?_⟩
    · exact (sb.2 _ D.TIz).trans (hk _ _ D.TIz D.TITO D.TIi1 D.TIi2 D.TIi3 hTI)
    · exact (sb.2 _ D.TOz).trans TO'
    · exact s1'.1.at fun o q => (sb.2 _ D.zi1.symm).trans q
    · exact s2'.1.at fun o q => (sb.2 _ D.zi2.symm).trans q
    · exact s3'.1.at fun o q => (sb.2 _ D.zi3.symm).trans q
    · have hlt : d < s.heap.objs.size := by
        have e' : d = z ∨ d = TI ∨ d = TO ∨ d = i1 ∨ d = i2 ∨ d = i3 := by simpa using hdm
        rcases e' with q | q | q | q | q | q
        · rw [q]; exact hzl
        · rw [q]; exact Heap.lt_size hTI
        · rw [q]; exact Heap.lt_size hTO
        · rw [q]; obtain ⟨_, e1, _⟩ := h1; exact Heap.lt_size e1
        · rw [q]; obtain ⟨_, e2, _⟩ := h2; exact Heap.lt_size e2
        · rw [q]; obtain ⟨_, e3, _⟩ := h3; exact Heap.lt_size e3
      rw [upd_ne (Nat.ne_of_lt hlt)]
      exact (hf d hdm).1
  done := by
    intro X hP hw hK hc i pins s σ H E I hf st hg
    subst hP hw hK
    obtain ⟨hz, hTI, ⟨x0, y0, u0, hTO⟩, h1, h2, h3⟩ := st
    obtain ⟨xs, ys, zs, hqx, hqy, hqz, l1, l2, l3⟩ := hg
    obtain ⟨its, rv, p, _⟩ := I.tuple hqx
    obtain ⟨its2, rv2, p2, _⟩ := I.tuple hqy
    obtain ⟨its3, rv3, p3, _⟩ := I.list hqz
    have m1 : i = its.toArray.size := by have := rv.length; simp; omega
    have m2 : i = its2.toArray.size := by have := rv2.length; simp; omega
    have m3 : i = its3.toArray.size := by have := rv3.length; simp; omega
    have hh : X.A.in1.handled = none := I.ok.hd hc
    have D1 := Draws.tuple (prog := X.prog) (w := X.w) (A := X.A.in1) hh i1 a h1a its.toArray
    have D2 := Draws.tuple (prog := X.prog) (w := X.w) (A := X.A.in1) hh i2 b h2b its2.toArray
    have D3 := Draws.list (prog := X.prog) (w := X.w) (A := X.A.in1) hh i3 c h3c its3.toArray
    exact wpAny_pyNext_zipD3_end D D1 D2 D3 hz hTI hTO ⟨h1, p⟩ ⟨h2, p2⟩ ⟨h3, p3.isList⟩ (Nat.le_of_eq m1) (Nat.le_of_eq m2) (Nat.le_of_eq m3) (.inl m1) fun h' tk hk => ⟨rfl, I.turnedL (t' := tk) (ch := [z, TI, TO, i1, i2, i3]) (fun d o hb q =>
      hk d o (fun q' => hb (by simp [q'])) (fun q' => hb (by simp [q'])) (fun q' => hb (by simp [q'])) (fun q' => hb (by simp [q'])) (fun q' => hb (by simp [q'])) q) hf⟩
  self := fun A i s Q E st h => wpAny_pyIter_zip st.1 h
def iZip3 (K : PySem.W.Frag) (ta : TA) : TI := fun σ H R => ta σ H fun vs H1 => ∃ a b c xs ys zs, vs = [.ref a, .ref b, .ref c] ∧ SqT K H1 a xs ∧ SqT K H1 b ys ∧ SqL K H1 c zs ∧ R (Itz3 K a b c) H1
theorem pi_zip3 {X : Cx} {e e2 e3 : Expr} {ta : TA} {p pos tpos : Pos} {elts : List Expr} {kk : Nat} (hg : Gl X "zip") (hm : X.mg "zip" = none) (ha : PA X [e, e2, e3] ta)
    (hs : starEach [e, e2, e3] X.env = (false, eval e X.env) :: starEach [e2, e3] X.env := by rfl) (hpl : (backTo pos (starEach [e2, e3] X.env)).any (·.1) = false := by rfl) :
    PI X (.Tuple elts kk tpos) (.Call (.Name "zip" p) [e, e2, e3] [] pos) (iZip3 X.K ta) := by
  refine ⟨fun pins s σ H R I h => ?_⟩
  refine Call_ (ld_blt I hg hm PyProof.Rows.boot_zip (PyProof.Rows.callWith_type1 (thn (ha.run pos pins s σ H _ I h) fun us s1 ⟨vs, H1, I1, r1, q1⟩ => ?_) hs hpl))
  obtain ⟨a, b, c, xs, ys, zs, ex, hqx, hqy, hqz, q⟩ := q1
  subst ex
  cases r1 with
  | cons r rr =>
    cases rr with
    | cons r' rr =>
      cases rr with
      | cons r'' rr =>
        cases rr
        cases r
        cases r'
        cases r''
        obtain ⟨its, rv, p1, _⟩ := I1.tuple hqx
        obtain ⟨its2, rv2, p2, _⟩ := I1.tuple hqy
        obtain ⟨its3, rv3, p3, _⟩ := I1.list hqz
        have la : a < s1.heap.objs.size := p1.lt
        have lb : b < s1.heap.objs.size := p2.lt
        have lc : c < s1.heap.objs.size := p3.lt
        refine zip_begins3 (begins_tuple a its.toArray) (begins_tuple b its2.toArray) (begins_list c its3.toArray) p1 p2 p3.isList fun h' hz hTI hTO h1 h2 h3 hsz hk => wpAny_pyIter_zip hz ?_
        have I2 : Inv X pins σ H1 { s1 with heap := h' } := I1.kept (t' := s1.toks) hk
        have sep : ZipSep3 (s1.heap.objs.size + 5) (s1.heap.objs.size + 3) (s1.heap.objs.size + 4) s1.heap.objs.size (s1.heap.objs.size + 1) (s1.heap.objs.size + 2) [s1.heap.objs.size, a] [s1.heap.objs.size + 1, b] [s1.heap.objs.size + 2, c] :=
          zip_sep3 (N := s1.heap.objs.size) (fp1 := [a]) (fp2 := [b]) (fp3 := [c]) (fun d hd => by rw [List.mem_singleton.mp hd]; exact la) (fun d hd => by rw [List.mem_singleton.mp hd]; exact lb) (fun d hd => by rw [List.mem_singleton.mp hd]; exact lc)
        refine ⟨s1.heap.objs.size + 5, [s1.heap.objs.size + 5, s1.heap.objs.size + 3, s1.heap.objs.size + 4, s1.heap.objs.size, s1.heap.objs.size + 1, s1.heap.objs.size + 2], _, _, H1, rfl, I2,
          turn_zip3 sep (Nat.ne_of_lt la) (Nat.ne_of_lt (Nat.lt_succ_of_lt lb)) (Nat.ne_of_lt (Nat.lt_succ_of_lt (Nat.lt_succ_of_lt lc))), ⟨hz, hTI, ⟨_, _, _, hTO⟩, ⟨_, h1, rfl, rfl⟩, ⟨_, h2, rfl, rfl⟩, ⟨_, h3, rfl, rfl⟩⟩, fun d hdm => ?_, q⟩
        have e' : d = s1.heap.objs.size + 5 ∨ d = s1.heap.objs.size + 3 ∨ d = s1.heap.objs.size + 4 ∨ d = s1.heap.objs.size ∨ d = s1.heap.objs.size + 1 ∨ d = s1.heap.objs.size + 2 := by simpa using hdm
        have hle : s1.heap.objs.size ≤ d := by
          rcases e' with z | z | z | z | z | z
          · rw [z]; exact Nat.le_add_right _ _
          · rw [z]; exact Nat.le_add_right _ _
          · rw [z]; exact Nat.le_add_right _ _
          · rw [z]; exact Nat.le_refl _
          · rw [z]; exact Nat.le_add_right _ _
          · rw [z]; exact Nat.le_add_right _ _
        exact I1.fpOk hle (I1.hok.fresh hle)
/-- the tuple at a, each item in a new pair with its number -/
def IteT (K : PySem.W.Frag) (a : Addr) : It :=
  ⟨fun i H => ∃ (xs : List V) (x : V), SqT K H a xs ∧ xs[i]? = some x, fun i H v H' => ∃ T x, v = .ref T ∧ H T = none ∧ H' = upd H T (.tup [.int (i : Nat), x]) ∧ ∀ xs, SqT K H a xs → xs[i]? = some x, fun i H => ∃ xs : List V, SqT K H a xs ∧ xs.length = i⟩
theorem turn_enumT {P : Program} {w : World} {K : PySem.W.Frag} {elts : List Expr} {kk : Nat} {tpos : Pos} (a e it : Addr) (hai : a ≠ it) (hae : e ≠ a) :
    Turn P w K (.Tuple elts kk tpos) (IteT K a) [e, it] e (fun i h => (∃ old, IsEnum h e it ((i : Nat) : Int) old) ∧ h.IsTupleIter it a i ∧ e ≠ it) where
  mem := by simp
  obj := fun i h st b hb => by
    obtain ⟨⟨old, he⟩, ⟨o, ho, hc, hd⟩, _⟩ := st
    have e' : b = e ∨ b = it := by simpa using hb
    rcases e' with z | z
    · rw [z]; exact ⟨_, he, fun v q => nomatch q⟩
    · rw [z]; exact ⟨o, ho, fun v q => by rw [hd] at q; cases q⟩
  keep := fun i h h' st k => let ⟨⟨old, he⟩, hi, hne⟩ := st; ⟨⟨old, k e (by simp) _ he⟩, hi.at fun o q => k it (by simp) o q, hne⟩
  item := by
    intro X hP hw hK hc i pins s σ H E I hf st hg
    subst hP hw hK
    obtain ⟨⟨old, he⟩, hit, hne⟩ := st
    obtain ⟨xs, x, hq, hx⟩ := hg
    obtain ⟨its, rv, p, hz⟩ := I.tuple hq
    obtain ⟨u, hu, ru⟩ := rv.get hx
    have hel : e < s.heap.objs.size := Heap.lt_size he
    have hil : it < s.heap.objs.size := by obtain ⟨_, q, _⟩ := hit; exact Heap.lt_size q
    have hh : X.A.in1.handled = none := I.ok.hd hc
    have D1 := Draws.tuple (prog := X.prog) (w := X.w) (A := X.A.in1) hh it a hai its.toArray
    have lt1 : i < its.toArray.size := by simpa using (List.getElem?_eq_some_iff.mp hu).1
    have hef : e ∉ [it, a] := by simp [hne, hae]
    refine wpAny_pyNext_enum_itemD D1 he ⟨hit, p⟩ lt1 hne hef fun x1 h' tk q1 ho st' hT hsz hk => ?_
    have e1 : x1 = u := by have q : its[i]? = some x1 := by simpa using q1
                           rw [hu] at q; exact (Option.some.inj q).symm
    subst e1
    refine ⟨_, rfl, wpAny_letOwnedTupleGo_enum (s := { s with heap := h', toks := tk + 1 }) ho fun h'' he' sb => ?_⟩
    have hT2 : h''.get? s.heap.objs.size = some { cls := .type "tuple", data := .seq #[.int i tk, x1] } := (sb.2 _ (Nat.ne_of_gt hel)).trans hT
    have new : ObjOk X.prog X.w (upd H s.heap.objs.size (.tup [.int (i : Nat), x])) h'' s.heap.objs.size (.tup [.int (i : Nat), x]) :=
      ⟨by show 2 ≤ sizeLine; decide, [.int i tk, x1], .cons ⟨_, rfl⟩ (.cons ru .nil), ⟨_, hT2, rfl, _, rfl⟩⟩
    have I1 : Inv X pins σ (upd H s.heap.objs.size (.tup [.int (i : Nat), x])) { s with heap := h'', toks := tk + 1 } :=
      I.turnedNew (ch := [e, it]) (fun b ob hb q => (sb.2 b (fun z => hb (by simp [z]))).trans (hk b ob (fun z => hb (by simp [z])) (fun z => hb (by simp [z])) q)) hf (Nat.le_refl _) new
    refine ⟨.ref s.heap.objs.size, _, I1, rfl, ⟨_, x, rfl, I.hok.fresh (Nat.le_refl _), rfl, fun ys hy => by rw [I.tuple_inj hy hq]; exact hx⟩, ⟨⟨x1, ?_⟩, st'.1.at fun o q => (sb.2 it (Ne.symm hne)).trans q, hne⟩, fun b hb => ?_⟩
    · have e1 : ((i + 1 : Nat) : Int) = (i : Int) + 1 := by omega
      rw [e1]; exact he'
    · have hb' : b < s.heap.objs.size := by
        have e' : b = e ∨ b = it := by simpa using hb
        rcases e' with z | z
        · rw [z]; exact hel
        · rw [z]; exact hil
      rw [upd_ne (Nat.ne_of_lt hb')]
      exact (hf b hb).1
  done := by
    intro X hP hw hK hc i pins s σ H E I hf st hg
    subst hP hw hK
    obtain ⟨⟨old, he⟩, hit, hne⟩ := st
    obtain ⟨xs, hq, hx⟩ := hg
    obtain ⟨its, rv, p, hz⟩ := I.tuple hq
    obtain ⟨f0, f1, f2, f3, f4, f5⟩ := hf it (by simp)
    have hh : X.A.in1.handled = none := I.ok.hd hc
    have D1 := Draws.tuple (prog := X.prog) (w := X.w) (A := X.A.in1) hh it a hai its.toArray
    have m1 : its.toArray.size = i := by have := rv.length; simp; omega
    refine wpAny_pyNext_enum_endD D1 he ⟨by rw [m1]; exact hit, p⟩ fun h' eb => ⟨rfl, I.turned (t' := s.toks) (fun b o hb q => eb b o hb q) f0 f1 f3 f4 f5⟩
  self := fun A i s Q E st h => let ⟨⟨_, he⟩, _⟩ := st; wpAny_pyIter_enum he h

theorem meets_enumerate_newB1 {v : Value} {o : Obj} {H : Heap → Prop} (B : Begins v o H) :
    Meets (Builtin.«enumerate.__new__» ⟨[.type "enumerate", v], []⟩) (fun _ R s => H s.heap ∧
      R (.ok (.ret (.ref (s.heap.push o).objs.size))) { s with heap := (s.heap.push o).push { cls := .type "enumerate", data := .fields #[.none, .bool false, .ref s.heap.objs.size, rawInt 0, .none, .none] } }) :=
  .of_wp fun prog w A R s h => by
    obtain ⟨hp, g, d, tk, os⟩ := s; obtain ⟨h1, h⟩ := h
    have hsub := sub_enumerate
    have q1 : ∀ {A' : Around} {E : Value → Shared → Prop} {Q : Value → Shared → Prop}, Q (.ref hp.objs.size) ⟨hp.push o, g, d, tk, os⟩ → wpAny (model prog w) A' (pyIter v) Q E ⟨hp, g, d, tk, os⟩ :=
      fun q => B.iter prog w _ _ ⟨hp, g, d, tk, os⟩ _ h1 q
    wp_walk using q1
    refine wpAny_stack_any fun st => wpAny_pure ?_
    split
    · rename_i c _ _ _ _ _
      cases (c == Value.type "enumerate")
      · wp_walk using q1
        exact ⟨_, rfl, h⟩
      · wp_walk using q1
        exact ⟨_, rfl, h⟩
    · wp_walk using q1
      exact ⟨_, rfl, h⟩
theorem enum_begins1 {prog : Program} {w : World} {A : Around} {E : Value → Shared → Prop} {s : Shared} {v : Value} {o : Obj} {H : Heap → Prop} {Q : Value → Shared → Prop} (B : Begins v o H) (h1 : H s.heap)
    (h : ∀ h', IsEnum h' (s.heap.objs.size + 1) s.heap.objs.size 0 .none → h'.get? s.heap.objs.size = some o → h'.objs.size = s.heap.objs.size + 2 →
      (∀ b o, s.heap.get? b = some o → h'.get? b = some o) → Q (.ref (s.heap.objs.size + 1)) { s with heap := h' }) :
    wpAny (model prog w) A (call (.type "enumerate") [v]) Q E s := by
  refine callType_new F.called_enumerate (by decide) (F.typeCall_enumerate_1 _) (F.newCall_enumerate_1 _) (fun obj => F.args_object_init_2 obj _) F.entry_enumerate_new
    (meets_enumerate_newB1 B) ⟨h1, ?_⟩
  have hz : (s.heap.push o).objs.size = s.heap.objs.size + 1 := Heap.size_push ..
  show _ ∧ _
  rw [hz]
  have he : IsEnum ((s.heap.push o).push { cls := .type "enumerate", data := .fields #[.none, .bool false, .ref s.heap.objs.size, rawInt 0, .none, .none] }) (s.heap.objs.size + 1) s.heap.objs.size 0 .none := by
    have := Heap.get?_push_size (s.heap.push o) (o := { cls := .type "enumerate", data := .fields #[.none, .bool false, .ref s.heap.objs.size, rawInt 0, .none, .none] }) rfl
    rw [hz] at this; exact this
  refine ⟨⟨_, he, rfl⟩, h _ he (Heap.get?_push_of_some _ (Heap.get?_push_size _ B.free)) (by rw [Heap.size_push, hz]) fun b o x => Heap.get?_push_of_some _ (Heap.get?_push_of_some _ x)⟩
def iEnumT (K : PySem.W.Frag) (ta : TA) : TI := fun σ H R => ta σ H fun vs H1 => ∃ a xs, vs = [.ref a] ∧ SqT K H1 a xs ∧ R (IteT K a) H1
theorem pi_enumT {X : Cx} {e : Expr} {ta : TA} {p pos tpos : Pos} {elts : List Expr} {kk : Nat} (hg : Gl X "enumerate") (hm : X.mg "enumerate" = none) (ha : PA X [e] ta) (hs : starEach [e] X.env = [(false, eval e X.env)] := by rfl) :
    PI X (.Tuple elts kk tpos) (.Call (.Name "enumerate" p) [e] [] pos) (iEnumT X.K ta) := by
  refine ⟨fun pins s σ H R I h => ?_⟩
  refine Call_ (ld_blt I hg hm boot_enumerate (PyProof.Rows.callWith_type1 (thn (ha.run pos pins s σ H _ I h) fun us s1 ⟨vs, H1, I1, r1, q1⟩ => ?_) hs rfl))
  obtain ⟨a, xs, ex, hq, q⟩ := q1
  subst ex
  cases r1 with
  | cons r rr =>
    cases rr
    cases r
    obtain ⟨its, rv, p', hz⟩ := I1.tuple hq
    have la : a < s1.heap.objs.size := p'.lt
    refine enum_begins1 (begins_tuple a its.toArray) p' fun h' he hit hsz hk => wpAny_pyIter_enum he ?_
    have I2 : Inv X pins σ H1 { s1 with heap := h' } := I1.kept (t' := s1.toks) hk
    refine ⟨s1.heap.objs.size + 1, [s1.heap.objs.size + 1, s1.heap.objs.size], _, _, H1, rfl, I2, turn_enumT a (s1.heap.objs.size + 1) s1.heap.objs.size (Nat.ne_of_lt la) (Nat.ne_of_gt (Nat.lt_succ_of_lt la)), ⟨⟨.none, he⟩, ⟨_, hit, rfl, rfl⟩, Nat.succ_ne_self _⟩, fun b hb => ?_, q⟩
    have e' : b = s1.heap.objs.size + 1 ∨ b = s1.heap.objs.size := by simpa using hb
    have hle : s1.heap.objs.size ≤ b := by
      rcases e' with z | z
      · rw [z]; exact Nat.le_add_right _ _
      · rw [z]; exact Nat.le_refl _
    exact I1.fpOk hle (I1.hok.fresh hle)
end Sw
namespace Sw
open PySem PySem.Spec PyProof.Rows L2 Evl
/-! ### more rules: sum of a tuple -/
section
variable {X : Cx}
def rSumT (K : PySem.W.Frag) : List V → Hp → VK → Prop := fun vs H Q => ∃ (a : Addr) (ns : List Int), vs = [V.ref a] ∧ SqT K H a (ns.map V.int) ∧ Q (.int ns.sum) H
theorem cr_sumT (hc : X.calm = true) : CallR X (.builtin "sum") (rSumT X.K) := by
  intro pins s σ H vs us Q I r h
  obtain ⟨a, ns, rfl, hs, q⟩ := h
  obtain ⟨its, rv, hl, _⟩ := I.tuple hs
  rw [Vals.ref1 r]
  obtain ⟨xs, e⟩ := rv.ints.allInts.items
  have hn : numsOf (intItems xs).toList = ns := by rw [← e]; exact rv.ints.numsOf
  rw [nums_intItems] at hn
  have hl' : s.heap.IsTuple a (intItems xs) := by rw [← e]; exact hl
  refine PySem.W.ktm_sumG (I.ok.hd hc) hl' fun h' tk t' hk => ⟨.int ns.sum, H, I.kept hk, ⟨t', ?_⟩, q⟩
  rw [preSum_eq, List.take_of_length_le (by simp), hn]
theorem ps_no {st : Stmt} : PS X st (fun _ _ _ => False) := ⟨fun _ _ _ _ _ _ h => h.elim⟩
end
/-! ### what they evaluate to -/
section
variable {K : PySem.W.Frag} {σ : L2.St} {H H' : Hp} {ta tb te tx : TE} {x y z v : V}
theorem ev_sumN {ns : List Int} (h : EvL ta σ H (ns.map V.int)) : Ev (tCB (rSum K) (tCons ta tNil)) σ H (.int ns.sum) := fun H1 e Q q =>
  h H1 e _ fun p H2 _ e2 h2 => ⟨p, ns, rfl, sq_of h2, q H2 e2⟩
theorem ev_sumL {a : Addr} {ns : List Int} (h : Ev ta σ H (.ref a)) (hx : SqL K H a (ns.map V.int)) : Ev (tCB (rSum K) (tCons ta tNil)) σ H (.int ns.sum) := fun H1 e Q q =>
  h H1 e _ fun H2 e2 => ⟨a, ns, rfl, ex_l (e.trans e2) hx, q H2 e2⟩
theorem ev_sumT {a : Addr} {ns : List Int} (h : Ev ta σ H (.ref a)) (hx : SqT K H a (ns.map V.int)) : Ev (tCB (rSumT K) (tCons ta tNil)) σ H (.int ns.sum) := fun H1 e Q q =>
  h H1 e _ fun H2 e2 => ⟨a, ns, rfl, ex_t (e.trans e2) hx, q H2 e2⟩
theorem ev_lenT {a : Addr} {xs : List V} (h : Ev ta σ H (.ref a)) (hx : SqT K H a xs) : Ev (tCB (rLenS K) (tCons ta tNil)) σ H (.int (xs.length : Int)) := fun H1 e Q q =>
  h H1 e _ fun H2 e2 => ⟨a, xs, rfl, .inr (ex_t (e.trans e2) hx), q H2 e2⟩
theorem given_all (n : Nat) (v : Nat → V) : given n (fun _ => true) v = (List.range n).map v := by
  unfold given
  rw [List.filter_eq_self.mpr (fun _ _ => rfl)]
theorem et_yes : EvT tYes σ H true := fun H1 _ _ q => q H1 (Ex.refl H1)
/-- the comprehension over range(n), no test -/
theorem el_lcR {ta : TA} {j : Nat} {vs : List Nat} {n : Int} (v : Nat → V) (h : EvA ta σ H [.int n]) (hn : 0 ≤ n ∧ n ≤ 40000) (hw : ∀ x, wipe ((wipe σ vs).set j (some x)) vs = wipe σ vs)
    (he : ∀ (i : Nat) H1, Ex H H1 → (i : Int) < n → Ev te ((wipe σ vs).set j (some (.int (i : Int)))) H1 (v i)) :
    EvL (tLc (iRng1 ta) (gName j) tYes te vs) σ H ((List.range n.toNat).map v) := by
  rw [← given_all]
  exact el_lcR1 (fun _ => true) v h hn hw (fun _ _ _ _ => et_yes) (fun i H1 e hi _ => he i H1 e hi)
theorem atI_at {α : Type} {xs : List α} {i : Int} {d : α} (h0 : 0 ≤ i) (h1 : i < xs.length) : atI xs i = some (xs.getD i.toNat d) := by
  obtain ⟨j, rfl⟩ : ∃ j : Nat, i = (j : Int) := ⟨i.toNat, by omega⟩
  have hj : j < xs.length := by omega
  rw [atI_nat (v := xs[j]) (by simp [hj]), Int.toNat_natCast]
  simp [List.getD, hj]
end
end Sw
namespace Sw
open PySem PySem.Spec PyProof.Rows L2 Evl
/-! ### instances, methods, calls -/
section
variable {K : PySem.W.Frag} {σ : L2.St} {H H' : Hp} {ta tb te tx : TE} {x y z v : V} {a C dx : Addr} {fs : List (Str × V)} {f m : Str}
/-- the instance at a has the field -/
def Fl (H : Hp) (a C : Addr) (f : Str) (v : V) : Prop := ∃ dx fs, H a = some (.ins C dx fs) ∧ fs.lookup f = some v
/-- the instance at a has no such field -/
def NoF (H : Hp) (a C : Addr) (f : Str) : Prop := ∃ dx fs, H a = some (.ins C dx fs) ∧ fs.lookup f = none
theorem Fl.mono (e : Ex H H') (h : Fl H a C f v) : Fl H' a C f v := let ⟨dx, fs, h1, h2⟩ := h; ⟨dx, fs, e _ _ h1, h2⟩
theorem NoF.mono (e : Ex H H') (h : NoF H a C f) : NoF H' a C f := let ⟨dx, fs, h1, h2⟩ := h; ⟨dx, fs, e _ _ h1, h2⟩
theorem ev_fld (h : Ev ta σ H (.ref a)) (hf : Fl H a C f v) (c : Cls K C) (n : NoAttr K C f) : Ev (tFld K ta f) σ H v := fun H1 e Q q =>
  h H1 e _ fun H2 e2 => let ⟨dx, fs, h1, h2⟩ := hf; ⟨a, C, dx, fs, v, rfl, e2 _ _ (e _ _ h1), c, n, h2, q H2 e2⟩
/-- what a method's promise gives -/
theorem ev_meth {sp : Sp} {dvs vs : List V} {E : XK} {t : TA} (h : Ev ta σ H (.ref a)) (nf : NoF H a C m) (hv : EvA t σ H vs) (hs : SpV sp (.ref a :: (vs ++ dvs)) H z) : Ev (tMeth C m sp dvs E ta t) σ H z := fun H1 e Q q =>
  h H1 e _ fun H2 e2 => let ⟨dx, fs, h1, h2⟩ := nf; ⟨a, dx, fs, rfl, e2 _ _ (e _ _ h1), h2, hv H2 (e.trans e2) _ fun H3 e3 => hs H3 ((e.trans e2).trans e3) Q (fun H4 e4 => q H4 ((e2.trans e3).trans e4)) E⟩
theorem el_meth {sp : Sp} {dvs vs xs : List V} {E : XK} {t : TA} (h : Ev ta σ H (.ref a)) (nf : NoF H a C m) (hv : EvA t σ H vs) (hs : SpL sp (.ref a :: (vs ++ dvs)) H xs) : EvL (tMeth C m sp dvs E ta t) σ H xs := fun H1 e Q q =>
  h H1 e _ fun H2 e2 => let ⟨dx, fs, h1, h2⟩ := nf; ⟨a, dx, fs, rfl, e2 _ _ (e _ _ h1), h2, hv H2 (e.trans e2) _ fun H3 e3 => hs H3 ((e.trans e2).trans e3) Q (fun p H4 hp e4 h4 => q p H4 (fresh_back (e2.trans e3) hp) ((e2.trans e3).trans e4) h4) E⟩
/-- a new tuple -/
def SpU (sp : Sp) (vs : List V) (H : Hp) (xs : List V) : Prop := ∀ H1, Ex H H1 → ∀ Q : VK, (∀ p H2, H1 p = none → Ex H1 H2 → H2 p = some (.tup xs) → Q (.ref p) H2) → ∀ E : XK, sp vs H1 Q E
theorem eu_meth {sp : Sp} {dvs vs xs : List V} {E : XK} {t : TA} (h : Ev ta σ H (.ref a)) (nf : NoF H a C m) (hv : EvA t σ H vs) (hs : SpU sp (.ref a :: (vs ++ dvs)) H xs) : EvU (tMeth C m sp dvs E ta t) σ H xs := fun H1 e Q q =>
  h H1 e _ fun H2 e2 => let ⟨dx, fs, h1, h2⟩ := nf; ⟨a, dx, fs, rfl, e2 _ _ (e _ _ h1), h2, hv H2 (e.trans e2) _ fun H3 e3 => hs H3 ((e.trans e2).trans e3) Q (fun p H4 hp e4 h4 => q p H4 (fresh_back (e2.trans e3) hp) ((e2.trans e3).trans e4) h4) E⟩
theorem eu_call {sp : Sp} {dvs vs xs : List V} {E : XK} {ta : TA} (h : EvA ta σ H vs) (hs : SpU sp (vs ++ dvs) H xs) : EvU (tCall sp dvs E ta) σ H xs := fun H1 e Q q =>
  h H1 e _ fun H2 e2 => hs H2 (e.trans e2) Q (fun p H3 hp e3 h3 => q p H3 (fresh_back e2 hp) (e2.trans e3) h3) E
/-- an item of what a call hands back -/
theorem ev_ixNL {xs : List V} {i : Int} (h : EvL ta σ H xs) (hb : Ev tb σ H (.int i)) (ha : atI xs i = some v) : Ev (tOp (rIxL K) ta tb) σ H v := ev_opL1 h (fun H1 e => hb.mono e) fun p H1 hp _ => rv_ixL (K := K) (sq_of hp) ha
theorem ev_ixNU {xs : List V} {i : Int} (h : EvU ta σ H xs) (hb : Ev tb σ H (.int i)) (ha : atI xs i = some v) : Ev (tOp (rIxT K) ta tb) σ H v := fun H1 e Q q =>
  h H1 e _ fun p H2 _ e2 hp => hb H2 (e.trans e2) _ fun H3 e3 => rv_ixT (K := K) (st_of (e3 p _ hp)) ha H3 (Ex.refl H3) Q fun H4 e4 => q H4 ((e2.trans e3).trans e4)
theorem ev_ixL {p : Addr} {xs : List V} {i : Int} (h : Ev ta σ H (.ref p)) (hx : SqL K H p xs) (hb : Ev tb σ H (.int i)) (ha : atI xs i = some v) : Ev (tOp (rIxL K) ta tb) σ H v := ev_op h hb (rv_ixL hx ha)
theorem ev_ixT {p : Addr} {xs : List V} {i : Int} (h : Ev ta σ H (.ref p)) (hx : SqT K H p xs) (hb : Ev tb σ H (.int i)) (ha : atI xs i = some v) : Ev (tOp (rIxT K) ta tb) σ H v := ev_op h hb (rv_ixT hx ha)
/-- the smaller, the greater of two -/
def rMn : List V → Hp → VK → Prop := fun xs H Q => ∃ i j, xs = [.int i, .int j] ∧ Q (.int (if j < i then j else i)) H
theorem ev_min2 {i j : Int} (ha : Ev ta σ H (.int i)) (hb : Ev tb σ H (.int j)) : Ev (tCB rMn (tCons ta (tCons tb tNil))) σ H (.int (min i j)) := fun H1 e Q q =>
  ha H1 e _ fun H2 e2 => hb H2 (e.trans e2) _ fun H3 e3 => ⟨i, j, rfl, by
    have z : (if j < i then j else i) = min i j := by omega
    rw [z]; exact q H3 (e2.trans e3)⟩
theorem ev_maxi {i j : Int} (ha : Ev ta σ H (.int i)) (hb : Ev tb σ H (.int j)) : Ev (tCB rMax2 (tCons ta (tCons tb tNil))) σ H (.int (max i j)) := by
  have z : (if j > i then j else i) = max i j := by omega
  rw [← z]; exact ev_max2 ha hb
/-- divmod: a new pair -/
def rDm : List V → Hp → VK → Prop := fun xs H Q => ∃ i j, xs = [.int i, .int j] ∧ CDiv i j ∧ ∀ p, H p = none → Q (.ref p) (upd H p (.tup [.int (i / j), .int (i % j)]))
theorem eu_dm {i j : Int} (ha : Ev ta σ H (.int i)) (hb : Ev tb σ H (.int j)) (hc : CDiv i j) : EvU (tCB rDm (tCons ta (tCons tb tNil))) σ H [.int (i / j), .int (i % j)] := fun H1 e Q q =>
  ha H1 e _ fun H2 e2 => hb H2 (e.trans e2) _ fun H3 e3 => ⟨i, j, rfl, hc, fun p hp => q p _ (fresh_back (e2.trans e3) hp) ((e2.trans e3).trans (Ex.new hp)) upd_same⟩
theorem eu_tup {t : TA} {xs : List V} (h : EvA t σ H xs) (hz : xs.length ≤ 100000) : EvU (tTup t) σ H xs := fun H1 e Q q =>
  h H1 e _ fun H2 e2 => ⟨sz_of hz, fun p hp => q p _ (fresh_back e2 hp) (e2.trans (Ex.new hp)) upd_same⟩
theorem el_lst {t : TA} {xs : List V} (h : EvA t σ H xs) (hz : xs.length ≤ 100000) : EvL (tLst t) σ H xs := fun H1 e Q q =>
  h H1 e _ fun H2 e2 => ⟨sz_of hz, fun p hp => q p _ (fresh_back e2 hp) (e2.trans (Ex.new hp)) upd_same⟩
theorem Ev.int_eq {i j : Int} (h : Ev te σ H (.int i)) (e : i = j) : Ev te σ H (.int j) := e ▸ h
/-- a, b = a new pair -/
theorem s_pair {i j : Nat} {D : Ends} {x y : V} (h : EvU te σ H [x, y]) (k : ∀ H1, Ex H H1 → D.nx ((σ.set i (some x)).set j (some y)) H1) : tAsg te (gTup K 2 (gCons (gName i) (gCons (gName j) gNil))) D σ H :=
  h H (Ex.refl H) _ fun p H1 _ e hp => ⟨p, [x, y], rfl, st_of hp, rfl, x, [y], rfl, y, [], rfl, rfl, k H1 e⟩
theorem q_pair {i j : Nat} {D : Ends} {x y : V} {tz : TS} (h : EvU te σ H [x, y]) (k : ∀ H1, Ex H H1 → tz D ((σ.set i (some x)).set j (some y)) H1) : tSeq (tAsg te (gTup K 2 (gCons (gName i) (gCons (gName j) gNil)))) tz D σ H :=
  s_pair (D := { D with nx := tz D }) h k
end
/-! ### the rules with the written part named -/
section
variable {X : Cx}
theorem pe_fldK (K : PySem.W.Frag) {e : Expr} {f : Str} {pos : Pos} {ta : TE} (hK : X.K = K) (he : PE X e ta) (hb : attributeBase e f X.env (eval e X.env) = eval e X.env) : PE X (.Attribute e f pos) (tFld K ta f) := by
  subst hK; exact pe_fld he hb
theorem pi_listK (K : PySem.W.Frag) {tg l : Expr} {tl : TE} (hK : X.K = K) (hl : PE X l tl) : PI X tg l (iList K tl) := by
  subst hK; exact pi_list hl
theorem pi_tupK (K : PySem.W.Frag) {tg l : Expr} {tl : TE} (hK : X.K = K) (hl : PE X l tl) : PI X tg l (iTup K tl) := by
  subst hK; exact pi_tup hl
theorem pi_enumTK (K : PySem.W.Frag) {e : Expr} {ta : TA} {p pos tpos : Pos} {elts : List Expr} {kk : Nat} (hK : X.K = K) (hg : Gl X "enumerate") (hm : X.mg "enumerate" = none) (ha : PA X [e] ta) (hs : starEach [e] X.env = [(false, eval e X.env)] := by rfl) :
    PI X (.Tuple elts kk tpos) (.Call (.Name "enumerate" p) [e] [] pos) (iEnumT K ta) := by
  subst hK; exact pi_enumT hg hm ha hs
theorem pg_tupK (K : PySem.W.Frag) {es : List Expr} {k : Nat} {t : TGs} {n : Nat} {pos : Pos} (hK : X.K = K) (hc : X.calm = true) (h : PGs X es t)
    (hn : (assignEach es X.env).length = n := by rfl) (hst : (assignEach es X.env).findIdx? (·.1) = none := by rfl) : PG X (.Tuple es k pos) (gTup K n t) := by
  subst hK; exact pg_tup hc h hn hst
end
/-! ### the promises' shapes -/
def RetU (xs : List V) (H : Hp) (Q : VK) : Prop := ∀ p H2, H p = none → Ex H H2 → H2 p = some (.tup xs) → Q (.ref p) H2
end Sw
namespace Sw
open PySem PySem.Spec PyProof.Rows L2 Evl
section
variable {K : PySem.W.Frag} {σ : L2.St} {H H' : Hp} {ta tb te tx : TE} {x y z v : V} {a C dx : Addr} {fs : List (Str × V)} {f m : Str} {D : Ends} {tz : TS}
/-- o.f = e -/
theorem q_fld (h : Ev te σ H v) (ho : ∀ H1, Ex H H1 → Ev ta σ H1 (.ref a)) (hx : H a = some (.ins C dx fs)) (c : Cls K C) (n : NoAttr K C f) (hl : fs.length < 1000) (k : ∀ H1, Ex H H1 → tz D σ (upd H1 a (.ins C dx (putF f v fs)))) : tSeq (sFld K ta te f) tz D σ H :=
  h H (Ex.refl H) _ fun H1 e1 => ho H1 e1 H1 (Ex.refl H1) _ fun H2 e2 => ⟨a, C, dx, fs, rfl, e2 _ _ (e1 _ _ hx), c, n, hl, k H2 (e1.trans e2)⟩
theorem s_fld (h : Ev te σ H v) (ho : ∀ H1, Ex H H1 → Ev ta σ H1 (.ref a)) (hx : H a = some (.ins C dx fs)) (c : Cls K C) (n : NoAttr K C f) (hl : fs.length < 1000) (k : ∀ H1, Ex H H1 → D.nx σ (upd H1 a (.ins C dx (putF f v fs)))) : sFld K ta te f D σ H :=
  h H (Ex.refl H) _ fun H1 e1 => ho H1 e1 H1 (Ex.refl H1) _ fun H2 e2 => ⟨a, C, dx, fs, rfl, e2 _ _ (e1 _ _ hx), c, n, hl, k H2 (e1.trans e2)⟩
theorem q_fldL {xs : List V} (h : EvL te σ H xs) (ho : ∀ H1, Ex H H1 → Ev ta σ H1 (.ref a)) (hx : H a = some (.ins C dx fs)) (c : Cls K C) (n : NoAttr K C f) (hl : fs.length < 1000) (k : ∀ p H1, H p = none → Ex H H1 → H1 p = some (.lst xs) → tz D σ (upd H1 a (.ins C dx (putF f (.ref p) fs)))) : tSeq (sFld K ta te f) tz D σ H :=
  h H (Ex.refl H) _ fun p H1 hp e1 h1 => ho H1 e1 H1 (Ex.refl H1) _ fun H2 e2 => ⟨a, C, dx, fs, rfl, e2 _ _ (e1 _ _ hx), c, n, hl, k p H2 hp (e1.trans e2) (e2 _ _ h1)⟩
theorem s_fldL {xs : List V} (h : EvL te σ H xs) (ho : ∀ H1, Ex H H1 → Ev ta σ H1 (.ref a)) (hx : H a = some (.ins C dx fs)) (c : Cls K C) (n : NoAttr K C f) (hl : fs.length < 1000) (k : ∀ p H1, H p = none → Ex H H1 → H1 p = some (.lst xs) → D.nx σ (upd H1 a (.ins C dx (putF f (.ref p) fs)))) : sFld K ta te f D σ H :=
  h H (Ex.refl H) _ fun p H1 hp e1 h1 => ho H1 e1 H1 (Ex.refl H1) _ fun H2 e2 => ⟨a, C, dx, fs, rfl, e2 _ _ (e1 _ _ hx), c, n, hl, k p H2 hp (e1.trans e2) (e2 _ _ h1)⟩
theorem s_fldU {xs : List V} (h : EvU te σ H xs) (ho : ∀ H1, Ex H H1 → Ev ta σ H1 (.ref a)) (hx : H a = some (.ins C dx fs)) (c : Cls K C) (n : NoAttr K C f) (hl : fs.length < 1000) (k : ∀ p H1, H p = none → Ex H H1 → H1 p = some (.tup xs) → D.nx σ (upd H1 a (.ins C dx (putF f (.ref p) fs)))) : sFld K ta te f D σ H :=
  h H (Ex.refl H) _ fun p H1 hp e1 h1 => ho H1 e1 H1 (Ex.refl H1) _ fun H2 e2 => ⟨a, C, dx, fs, rfl, e2 _ _ (e1 _ _ hx), c, n, hl, k p H2 hp (e1.trans e2) (e2 _ _ h1)⟩
/-- the heap, the one object at x forgotten -/
def wo (H : Hp) (x : Addr) : Hp := fun b => if b = x then none else H b
theorem wo_self {H : Hp} {x : Addr} : wo H x x = none := by unfold wo; rw [if_pos rfl]
theorem wo_ne {H : Hp} {x b : Addr} (h : b ≠ x) : wo H x b = H b := by unfold wo; rw [if_neg h]
theorem wo_ex {H : Hp} {x : Addr} : Ex (wo H x) H := fun b o h => by
  by_cases e : b = x
  · rw [e, wo_self] at h; cases h
  · rwa [wo_ne e] at h
theorem wo_t {H : Hp} {x a : Addr} {xs : List V} {o : HO} (hx : H x = some o) (ho : ∀ u v, o ≠ .frz u v) (hn : ∀ ys, o ≠ .tup ys) (h : SqT K H a xs) : SqT K (wo H x) a xs := by
  rcases h with (h | ⟨u, h⟩) | h
  · refine .inl (.inl ?_)
    rw [wo_ne]
    · exact h
    · intro e; rw [e, hx] at h; exact hn xs (Option.some.inj h)
  · refine .inl (.inr ⟨u, ?_⟩)
    rw [wo_ne]
    · exact h
    · intro e; rw [e, hx] at h; exact ho u _ (Option.some.inj h)
  · exact .inr h
end
end Sw
namespace Sw
open PySem PySem.Spec PyProof.Rows L2 Evl
/-! ### walks of three, and of a tuple's items with their numbers -/
section
variable {K : PySem.W.Frag} {σ : L2.St} {H H' : Hp} {ta tb te tx tl : TE} {x y z v : V} {a b c : Addr} {xs ys zs : List V} {n : Nat}
def YTrip (xs ys zs : List V) : Nat → Hp → V → Hp → Prop := fun i H v H' => ∃ T x y z, v = .ref T ∧ H T = none ∧ H' = upd H T (.tup [x, y, z]) ∧ xs[i]? = some x ∧ ys[i]? = some y ∧ zs[i]? = some z
theorem walk_zip3 (lx : xs.length = n) (ly : ys.length = n) (lz : zs.length = n) : Walk (Itz3 K a b c) n (fun H => SqT K H a xs ∧ SqT K H b ys ∧ SqL K H c zs) (YTrip xs ys zs) := by
  refine ⟨fun i _ hi q => ⟨xs, ys, zs, xs[i]'(by omega), ys[i]'(by omega), zs[i]'(by omega), q.1, q.2.1, q.2.2, by simp, by simp, by simp⟩, fun _ q => ⟨xs, ys, zs, q.1, q.2.1, q.2.2, lx, ly, lz⟩, fun i H v H' _ q h => ?_⟩
  obtain ⟨T, x, y, z, h1, h2, h3, h4, h5, h6⟩ := h
  exact ⟨T, x, y, z, h1, h2, h3, h4 xs q.1, h5 ys q.2.1, h6 zs q.2.2⟩
theorem walk_enumT : Walk (IteT K a) xs.length (fun H => SqT K H a xs) (YPair (fun i => some (.int (i : Nat))) (fun i => xs[i]?)) := by
  refine ⟨fun i _ hi q => ⟨xs, xs[i], q, by simp⟩, fun _ q => ⟨xs, q, rfl⟩, fun i H v H' _ q h => ?_⟩
  obtain ⟨T, x, h1, h2, h3, h4⟩ := h
  exact ⟨T, .int (i : Nat), x, h1, h2, h3, rfl, h4 xs q⟩
variable {D : Ends} {tu tz : TS}
theorem q_forZ3 {tt : TA} {j1 j2 j3 : Nat} {G : Hp} (h : EvA tt σ H [.ref a, .ref b, .ref c]) (eG : Ex G H) (hx : SqT K G a xs) (hy : SqT K G b ys) (hz : SqL K G c zs) (lx : xs.length = n) (ly : ys.length = n) (lz : zs.length = n)
    (Pv : Nat → L2.St → Hp → Prop) (h0 : ∀ H1, Ex H H1 → Pv 0 σ H1) (hG : ∀ i σ' H', i ≤ n → Pv i σ' H' → Ex G H')
    (hs : ∀ i x y z σ' H', xs[i]? = some x → ys[i]? = some y → zs[i]? = some z → Pv i σ' H' → ∀ H2, Ex H' H2 → tu { D with nx := Pv (i + 1), ct := Pv (i + 1), bk := tz D } (((σ'.set j1 (some x)).set j2 (some y)).set j3 (some z)) H2)
    (hd : ∀ σ' H', Pv n σ' H' → tz D σ' H') : tSeq (tFor (iZip3 K tt) (gTup K 3 (gCons (gName j1) (gCons (gName j2) (gCons (gName j3) gNil)))) tu) tz D σ H :=
  h H (Ex.refl H) _ fun H1 e1 => ⟨a, b, c, xs, ys, zs, rfl, ex_t (eG.trans e1) hx, ex_t (eG.trans e1) hy, ex_l (eG.trans e1) hz,
    for_it (walk_zip3 lx ly lz) Pv (h0 H1 e1) (fun i σ' H' hi p => ⟨ex_t (hG i σ' H' hi p) hx, ex_t (hG i σ' H' hi p) hy, ex_l (hG i σ' H' hi p) hz⟩)
      (fun i v σ' H' H2 hi p q => by
        obtain ⟨T, x, y, z, rfl, hT, rfl, q1, q2, q3⟩ := q
        exact ⟨T, [x, y, z], rfl, st_of upd_same, rfl, x, [y, z], rfl, y, [z], rfl, z, [], rfl, rfl, hs i x y z σ' H' q1 q2 q3 p _ (Ex.new hT)⟩) hd⟩
/-- for i, x in enumerate(t), t a tuple -/
theorem s_forEnT {tt : TA} {j1 j2 : Nat} (h : EvA tt σ H [.ref a]) (hx : SqT K H a xs)
    (Pv : Nat → L2.St → Hp → Prop) (h0 : ∀ H1, Ex H H1 → Pv 0 σ H1) (hG : ∀ i σ' H', i ≤ xs.length → Pv i σ' H' → Ex H H')
    (hs : ∀ i x σ' H', xs[i]? = some x → Pv i σ' H' → ∀ H2, Ex H' H2 → tu { D with nx := Pv (i + 1), ct := Pv (i + 1), bk := D.nx } ((σ'.set j1 (some (.int (i : Nat)))).set j2 (some x)) H2)
    (hd : ∀ σ' H', Pv xs.length σ' H' → D.nx σ' H') : tFor (iEnumT K tt) (gTup K 2 (gCons (gName j1) (gCons (gName j2) gNil))) tu D σ H :=
  h H (Ex.refl H) _ fun H1 e1 => ⟨a, xs, rfl, ex_t e1 hx,
    for_it walk_enumT Pv (h0 H1 e1) (fun i σ' H' hi p => ex_t (hG i σ' H' hi p) hx)
      (fun i v σ' H' H2 hi p q => by
        obtain ⟨T, x, y, rfl, hT, rfl, q1, q2⟩ := q
        cases q1
        exact ⟨T, [.int (i : Nat), y], rfl, st_of upd_same, rfl, .int (i : Nat), [y], rfl, y, [], rfl, rfl, hs i y σ' H' q2 p _ (Ex.new hT)⟩) hd⟩
/-- [e for i, x in enumerate(t)] -/
theorem el_lcEnT {tt : TA} {j1 j2 : Nat} {vs : List Nat} (v : Nat → V) (h : EvA tt σ H [.ref a]) (hx : SqT K H a xs) (hz : xs.length ≤ 40000)
    (hw : ∀ x y, wipe (((wipe σ vs).set j1 (some x)).set j2 (some y)) vs = wipe σ vs)
    (he : ∀ (i : Nat) (x : V) H1, Ex H H1 → xs[i]? = some x → Ev te (((wipe σ vs).set j1 (some (.int (i : Nat)))).set j2 (some x)) H1 (v i)) :
    EvL (tLc (iEnumT K tt) (gTup K 2 (gCons (gName j1) (gCons (gName j2) gNil))) tYes te vs) σ H ((List.range xs.length).map v) := fun H0 e0 Q q =>
  h H0 e0 _ fun H1 e1 => ⟨a, xs, rfl, ex_t (e0.trans e1) hx, fun Dl hD => by
    rw [← given_all] at q
    refine lc_it (walk_enumT (xs := xs)) (Cw H1 (fun _ => true) v Dl) ⟨hD, Ex.new hD, upd_same⟩ (fun i H' _ p => ex_t ((e0.trans e1).trans p.2.1) hx) (fun i w H' H2 hi p y => ?_) (fun H' p => q Dl H' (fresh_back e1 p.1) (e1.trans p.2.1) p.2.2)
    obtain ⟨T, x, y, rfl, hT, rfl, q1, q2⟩ := y
    cases q1
    have p2 : Cw H1 (fun _ => true) v Dl i (upd H' T (.tup [.int (i : Nat), y])) := ⟨p.1, p.2.1.trans (Ex.new hT), by rw [upd_ne (ne_of_none p.2.2 hT)]; exact p.2.2⟩
    refine ⟨T, [.int (i : Nat), y], rfl, st_of upd_same, rfl, .int (i : Nat), [y], rfl, y, [], rfl, rfl, hw _ _, ?_⟩
    exact cw_turn p2 (by omega) et_yes (fun _ => he i y H1 (e0.trans e1) q2)⟩
/-- some tuple, some list of these items -/
def EvW (K : PySem.W.Frag) (te : TE) (σ : L2.St) (H : Hp) (xs : List V) : Prop := ∀ H1, Ex H H1 → ∀ Q : VK, (∀ p H2, Ex H1 H2 → SqT K H2 p xs → Q (.ref p) H2) → te σ H1 Q
def EvM (K : PySem.W.Frag) (te : TE) (σ : L2.St) (H : Hp) (xs : List V) : Prop := ∀ H1, Ex H H1 → ∀ Q : VK, (∀ p H2, Ex H1 H2 → SqL K H2 p xs → Q (.ref p) H2) → te σ H1 Q
theorem EvU.w (h : EvU te σ H xs) : EvW K te σ H xs := fun H1 e Q q => h H1 e Q fun p H2 _ e2 hp => q p H2 e2 (st_of hp)
theorem EvL.m (h : EvL te σ H xs) : EvM K te σ H xs := fun H1 e Q q => h H1 e Q fun p H2 _ e2 hp => q p H2 e2 (sq_of hp)
theorem ew_of (h : Ev te σ H (.ref a)) (hx : SqT K H a xs) : EvW K te σ H xs := fun H1 e Q q => h H1 e Q fun H2 e2 => q a H2 e2 (ex_t (e.trans e2) hx)
theorem em_of (h : Ev te σ H (.ref a)) (hx : SqL K H a xs) : EvM K te σ H xs := fun H1 e Q q => h H1 e Q fun H2 e2 => q a H2 e2 (ex_l (e.trans e2) hx)
theorem ev_sumW {ns : List Int} (h : EvW K ta σ H (ns.map V.int)) : Ev (tCB (rSumT K) (tCons ta tNil)) σ H (.int ns.sum) := fun H1 e Q q =>
  h H1 e _ fun p H2 e2 h2 => ⟨p, ns, rfl, h2, q H2 e2⟩
theorem ev_sumM {ns : List Int} (h : EvM K ta σ H (ns.map V.int)) : Ev (tCB (rSum K) (tCons ta tNil)) σ H (.int ns.sum) := fun H1 e Q q =>
  h H1 e _ fun p H2 e2 h2 => ⟨p, ns, rfl, h2, q H2 e2⟩
/-- t[:k] -/
theorem ew_take {th : TE} {k : Nat} (h : EvW K te σ H xs) (hk : Ev th σ H (.int (k : Int))) : EvW K (tSl (rSlA K) te tNoPart (tPart th)) σ H (xs.take k) := fun H1 e Q q =>
  h H1 e _ fun p H2 e2 h2 => hk H2 (e.trans e2) _ fun H3 e3 => ⟨(k : Int), rfl, p, xs, rfl, ex_t e3 h2, fun w => by
      have hi : min k xs.length = xs.length := by rw [← HT.sIx_nat xs.length xs.length k]; exact w.2
      have t : xs.take k = xs := List.take_of_length_le (by omega)
      rw [t] at q
      exact q p H3 (e2.trans e3) (ex_t e3 h2), fun _ r hr => by
      refine q r _ ((e2.trans e3).trans (Ex.new hr)) (st_of ?_)
      rw [upd_same]
      unfold cutV
      rw [HT.sIx_none, HT.sIx_nat]
      simp⟩
/-- xs[:k] of a list -/
theorem el_take {th : TE} {k : Nat} (h : EvM K te σ H xs) (hk : Ev th σ H (.int (k : Int))) : EvL (tSl (rSlL K) te tNoPart (tPart th)) σ H (xs.take k) := fun H1 e Q q =>
  h H1 e _ fun p H2 e2 h2 => hk H2 (e.trans e2) _ fun H3 e3 => ⟨(k : Int), rfl, p, xs, rfl, ex_l e3 h2, fun r hr => by
      refine q r _ (fresh_back (e2.trans e3) hr) ((e2.trans e3).trans (Ex.new hr)) ?_
      rw [upd_same]
      unfold cutV
      rw [HT.sIx_none, HT.sIx_nat]
      simp⟩
end
end Sw
namespace Sw
open PySem PySem.Spec PyProof.Rows L2 Evl
/-! ### max of a tuple of numbers -/
section
variable {prog : Program} {w : World} {A : Around} {E : Value → Shared → Prop} {s : Shared} {t : Addr} {xs : Array (Int × Tok)}
theorem max_intTup {Q : Value → Shared → Prop} (hh : A.handled = none) (ht : s.heap.IsTuple t (intItems xs)) (hne : 0 < xs.size)
    (h : ∀ v h' tk, (intItems xs)[argBest (fun i j => decide (numAt xs i > numAt xs j)) (xs.size - 1)]? = some v → (∀ b o, s.heap.get? b = some o → h'.get? b = some o) → Q v { s with heap := h', toks := tk }) :
    wpAny (model prog w) A (call (.builtin "max") [.ref t]) Q E s := by
  obtain ⟨o, ho, _, _, _⟩ := id ht
  have hlt : t < s.heap.objs.size := Heap.lt_size ho
  have hne' : t ≠ s.heap.objs.size := Nat.ne_of_lt hlt
  refine call_max_walk (wpAny_pyIter_tuple ht ?_)
  refine ⟨_, _, _, _, _, _, _, rfl, Walks.tuple (A := A.in1) hh _ t hne' (intItems xs), ⟨⟨_, Heap.get?_push_size _ rfl, rfl, rfl⟩, ht.at fun o e => Heap.get?_push_of_some _ e⟩, fun b hb => ?_, by simpa [intItems] using hne, CmpOf.ints_gt (numAt xs) (fun _ _ => intItems_at), fun v h' tk hP hk => ?_⟩
  · show b < (s.heap.push _).objs.size
    rw [Heap.size_push]
    rcases List.mem_cons.mp hb with rfl | hb
    · exact Nat.lt_succ_self _
    · rw [List.mem_singleton.mp hb]; exact Nat.lt_succ_of_lt hlt
  · refine h v h' tk (by simpa [intItems] using hP) fun b o e => hk b o (fun hm => ?_) (Heap.get?_push_of_some _ e)
    exact absurd (List.mem_singleton.mp hm ▸ Heap.lt_size e) (Nat.lt_irrefl _)
end
section
variable {X : Cx}
def rMaxT (K : PySem.W.Frag) : List V → Hp → VK → Prop := fun vs H Q => ∃ (a : Addr) (ns : List Int), vs = [V.ref a] ∧ SqT K H a (ns.map V.int) ∧ 0 < ns.length ∧ ∀ m, m ∈ ns → (∀ y, y ∈ ns → y ≤ m) → Q (.int m) H
theorem cr_maxT (hc : X.calm = true) : CallR X (.builtin "max") (rMaxT X.K) := by
  intro pins s σ H vs us Q I r h
  obtain ⟨a, ns, rfl, hs, hne, q⟩ := h
  obtain ⟨its, rv, hl, _⟩ := I.tuple hs
  rw [Vals.ref1 r]
  obtain ⟨xs, e⟩ := rv.ints.allInts.items
  have hn : numsOf (intItems xs).toList = ns := by rw [← e]; exact rv.ints.numsOf
  rw [nums_intItems] at hn
  subst hn
  have hl' : s.heap.IsTuple a (intItems xs) := by rw [← e]; exact hl
  have hsz : 0 < xs.size := by simpa using hne
  refine max_intTup (I.ok.hd hc) hl' hsz fun v h' tk hv hk => ?_
  obtain ⟨t', rfl⟩ := intItems_at hv
  obtain ⟨h1, h2⟩ := argBest_gt (numAt xs) (xs.size - 1)
  refine ⟨.int _, H, I.kept hk, ⟨t', rfl⟩, q _ ?_ fun y hy => ?_⟩
  · rw [numAt_eq]; exact PySem.getD_mem (by rw [List.length_map, Array.length_toList]; omega)
  · obtain ⟨j, hj, rfl⟩ := mem_getD hy
    rw [List.length_map, Array.length_toList] at hj
    rw [← numAt_eq]; exact h2 j (by omega)
end
theorem ev_maxT {K : PySem.W.Frag} {σ : L2.St} {H : Hp} {ta : TE} {a : Addr} {ns : List Int} {Qm : Int → Prop} (h : Ev ta σ H (.ref a)) (hx : SqT K H a (ns.map V.int)) (h0 : 0 < ns.length) :
    ∀ H1, Ex H H1 → ∀ Q : VK, (∀ m H2, Ex H1 H2 → m ∈ ns → (∀ y ∈ ns, y ≤ m) → Q (.int m) H2) → tCB (rMaxT K) (tCons ta tNil) σ H1 Q := fun H1 e Q q =>
  h H1 e _ fun H2 e2 => ⟨a, ns, rfl, ex_t (e.trans e2) hx, h0, fun m hm hle => q m H2 e2 hm hle⟩
end Sw
namespace Sw
open PySem PySem.Spec PyProof.Rows L2 Evl
section
variable {K : PySem.W.Frag} {σ : L2.St} {H H' : Hp} {ta tb te tl : TE} {x y z v : V} {a b : Addr} {xs ys : List V}
theorem ev_isN (h : Ev ta σ H x) : Ev (tIsN ta) σ H (.bl (decide (x = .non))) := fun H1 e1 Q q => h H1 e1 _ fun H2 e2 => q H2 e2
theorem ev_eqNil (ha : EvL ta σ H xs) (hb : EvL tb σ H []) (hx : xs = []) : Ev (tOp (rEqD K) ta tb) σ H (.bl true) := ev_opLL ha hb fun p q H1 hp hq _ => fun H2 e2 Q k => by
  subst hx
  exact ⟨.list [], .list [], .lst (sq_of (e2 _ _ hp)) .nil, .lst (sq_of (e2 _ _ hq)) .nil, by decide, by decide, by
    have : PyData.eqv (.list []) (.list []) = true := by decide
    rw [this]; exact k H2 (Ex.refl _)⟩
theorem given_none {n : Nat} {f : Nat → Bool} {v : Nat → V} (h : ∀ i, i < n → f i = false) : given n f v = [] := by
  unfold given
  have : (List.range n).filter f = [] := List.filter_eq_nil_iff.mpr fun i hi => by rw [h i (List.mem_range.mp hi)]; decide
  rw [this]; rfl
/-- two new lists, joined -/
theorem el_catN (ha : EvL ta σ H xs) (hb : EvL tb σ H ys) (hz : xs.length + ys.length ≤ 100000) : EvL (tOp rCat ta tb) σ H (xs ++ ys) := fun H1 e Q q =>
  ha H1 e _ fun p H2 _ e2 hp => hb H2 (e.trans e2) _ fun r H3 _ e3 hr => ⟨p, r, xs, ys, rfl, rfl, e3 _ _ hp, hr, sz_of hz, fun t ht => q t _ (fresh_back (e2.trans e3) ht) ((e2.trans e3).trans (Ex.new ht)) upd_same⟩
theorem el_lcRb {t : TA} {j : Nat} {vs : List Nat} {lo n : Int} (v : Nat → V) (h : EvA t σ H [.int lo, .int n]) (hn : 0 ≤ lo ∧ lo ≤ 10000 ∧ 0 ≤ n ∧ n ≤ 10000) (hw : ∀ x, wipe ((wipe σ vs).set j (some x)) vs = wipe σ vs)
    (he : ∀ (i : Nat) H1, Ex H H1 → lo + (i : Int) < n → Ev te ((wipe σ vs).set j (some (.int (lo + (i : Int))))) H1 (v i)) : EvL (tLc (iRng2 t) (gName j) tYes te vs) σ H ((List.range (n - lo).toNat).map v) := fun H0 e Q q => h H0 e _ fun H1 e1 => by
  rw [← given_all] at q
  exact ⟨lo, n, rfl, ⟨by omega, by omega, by omega, by omega⟩, fun Dl hD =>
    lc_range (lo := lo) (n := (n - lo).toNat) (Cw H1 (fun _ => true) v Dl) ⟨hD, Ex.new hD, upd_same⟩ (fun i H' hi p => ⟨hw _, cw_turn p (by omega) et_yes (fun _ => he i H1 (e.trans e1) (by omega))⟩) (fun H' p => q Dl H' (fresh_back e1 p.1) (e1.trans p.2.1) p.2.2)⟩
end
end Sw
namespace Sw
open PySem PySem.Spec PyProof.Rows L2 Evl
/-- the heap, the objects of N forgotten -/
noncomputable def wn (H : Hp) (N : Addr → Prop) : Hp := fun b => @ite _ (N b) (Classical.propDecidable _) none (H b)
theorem wn_in {H : Hp} {N : Addr → Prop} {b : Addr} (h : N b) : wn H N b = none := by unfold wn; rw [if_pos h]
theorem wn_ni {H : Hp} {N : Addr → Prop} {b : Addr} (h : ¬ N b) : wn H N b = H b := by unfold wn; rw [if_neg h]
theorem wn_some {H : Hp} {N : Addr → Prop} {b : Addr} {o : HO} (h : wn H N b = some o) : ¬ N b ∧ H b = some o := by
  by_cases q : N b
  · rw [wn_in q] at h; cases h
  · rw [wn_ni q] at h; exact ⟨q, h⟩
theorem wn_ex {H : Hp} {N : Addr → Prop} : Ex (wn H N) H := fun _ _ h => (wn_some h).2
theorem wn_mono {H H' : Hp} {N : Addr → Prop} (e : Ex H H') : Ex (wn H N) (wn H' N) := fun b o h => by
  obtain ⟨q, h1⟩ := wn_some h
  rw [wn_ni q]; exact e b o h1
theorem wn_upd {H : Hp} {N : Addr → Prop} {x : Addr} {o : HO} (hx : N x) : Ex (wn H N) (wn (upd H x o) N) := fun b u h => by
  obtain ⟨q, h1⟩ := wn_some h
  have nb : b ≠ x := fun z => q (by rw [z]; exact hx)
  rw [wn_ni q, upd_ne nb]; exact h1
theorem wn_sub {H : Hp} {N M : Addr → Prop} (h : ∀ b, N b → M b) : Ex (wn H M) (wn H N) := fun b o q => by
  obtain ⟨q1, h1⟩ := wn_some q
  rw [wn_ni fun z => q1 (h b z)]; exact h1
theorem wn_t {K : PySem.W.Frag} {H : Hp} {N : Addr → Prop} {a : Addr} {xs : List V} (ha : ¬ N a) (h : SqT K H a xs) : SqT K (wn H N) a xs := by
  rcases h with (h | ⟨u, h⟩) | h
  · exact .inl (.inl (by rw [wn_ni ha]; exact h))
  · exact .inl (.inr ⟨u, by rw [wn_ni ha]; exact h⟩)
  · exact .inr h
def nx (x : Addr) (N : Addr → Prop) : Addr → Prop := fun b => b = x ∨ N b
theorem wn_tx {K : PySem.W.Frag} {H : Hp} {N : Addr → Prop} {x a C dx : Addr} {fs : List (Str × V)} {xs : List V} (hx : H x = some (.ins C dx fs)) (h : SqT K (wn H N) a xs) : SqT K (wn H (nx x N)) a xs := by
  have go : ∀ u, wn H N a = some u → (∀ C dx fs, u ≠ .ins C dx fs) → wn H (nx x N) a = some u := fun u hu hne => by
    obtain ⟨q, h1⟩ := wn_some hu
    rw [wn_ni]
    · exact h1
    · rintro (e | e)
      · rw [e, hx] at h1; exact hne _ _ _ (Option.some.inj h1).symm
      · exact q e
  rcases h with (h | ⟨u, h⟩) | h
  · exact .inl (.inl (go _ h (fun _ _ _ q => nomatch q)))
  · exact .inl (.inr ⟨u, go _ h (fun _ _ _ q => nomatch q)⟩)
  · exact .inr h
end Sw
namespace Sw
open PySem PySem.Spec PyProof.Rows L2 Evl
def topS (i : Nat) : Stmt := PySem.Challenge.pw_staleloaves_k12_whole_known_bakeries.main.body.getD i (.Pass ⟨0, 0, 0, 0⟩)
abbrev s_count_keepable : Stmt := topS 3
abbrev n_count_keepable : List Str := ["bakes", "life", "length", "at", "age"]
abbrev p_count_keepable : List Str := ["bakes", "life"]
theorem sc_count_keepable : FnScope n_count_keepable p_count_keepable (defScope s_count_keepable) := ⟨rfl, rfl, rfl, by decide +kernel, rfl, by decide +kernel, by decide +kernel⟩
abbrev s_sum_repeated : Stmt := topS 2
abbrev n_sum_repeated : List Str := ["amounts", "days", "rounds", "rest"]
abbrev p_sum_repeated : List Str := ["amounts", "days"]
theorem sc_sum_repeated : FnScope n_sum_repeated p_sum_repeated (defScope s_sum_repeated) := ⟨rfl, rfl, rfl, by decide +kernel, rfl, by decide +kernel, by decide +kernel⟩
abbrev s_Course___init__ : Stmt := inClass (topS 4) 0
abbrev n_Course___init__ : List Str := ["self", "bakes", "demands", "life"]
abbrev p_Course___init__ : List Str := ["self", "bakes", "demands", "life"]
theorem sc_Course___init__ : FnScope n_Course___init__ p_Course___init__ (defScope s_Course___init__) := ⟨rfl, rfl, rfl, by decide +kernel, rfl, by decide +kernel, by decide +kernel⟩
abbrev s_Course_stock_at : Stmt := inClass (topS 4) 1
abbrev n_Course_stock_at : List Str := ["self", "day", "rounds", "at"]
abbrev p_Course_stock_at : List Str := ["self", "day"]
theorem sc_Course_stock_at : FnScope n_Course_stock_at p_Course_stock_at (defScope s_Course_stock_at) := ⟨rfl, rfl, rfl, by decide +kernel, rfl, by decide +kernel, by decide +kernel⟩
abbrev s_Course_sales_on : Stmt := inClass (topS 4) 2
abbrev n_Course_sales_on : List Str := ["self", "day", "rounds", "at", "stocks", "loaves", "sold"]
abbrev p_Course_sales_on : List Str := ["self", "day"]
theorem sc_Course_sales_on : FnScope n_Course_sales_on p_Course_sales_on (defScope s_Course_sales_on) := ⟨rfl, rfl, rfl, by decide +kernel, rfl, by decide +kernel, by decide +kernel⟩
abbrev s_Course_sales_before : Stmt := inClass (topS 4) 3
abbrev n_Course_sales_before : List Str := ["self", "days", "later", "missed", "sold"]
abbrev p_Course_sales_before : List Str := ["self", "days"]
theorem sc_Course_sales_before : FnScope n_Course_sales_before p_Course_sales_before (defScope s_Course_sales_before) := ⟨rfl, rfl, rfl, by decide +kernel, rfl, by decide +kernel, by decide +kernel⟩
abbrev s_Course_loaves_at : Stmt := inClass (topS 4) 4
abbrev n_Course_loaves_at : List Str := ["self", "day", "left", "baked", "found", "count"]
abbrev p_Course_loaves_at : List Str := ["self", "day"]
theorem sc_Course_loaves_at : FnScope n_Course_loaves_at p_Course_loaves_at (defScope s_Course_loaves_at) := ⟨rfl, rfl, rfl, by decide +kernel, rfl, by decide +kernel, by decide +kernel⟩
abbrev s_Course_find_settled : Stmt := inClass (topS 4) 5
abbrev n_Course_find_settled : List Str := ["self", "rounds", "stocks", "later", "at"]
abbrev p_Course_find_settled : List Str := ["self"]
theorem sc_Course_find_settled : FnScope n_Course_find_settled p_Course_find_settled (defScope s_Course_find_settled) := ⟨rfl, rfl, rfl, by decide +kernel, rfl, by decide +kernel, by decide +kernel⟩
abbrev s_Course_sum_settled_round : Stmt := inClass (topS 4) 6
abbrev n_Course_sum_settled_round : List Str := ["self", "missed", "sold"]
abbrev p_Course_sum_settled_round : List Str := ["self"]
theorem sc_Course_sum_settled_round : FnScope n_Course_sum_settled_round p_Course_sum_settled_round (defScope s_Course_sum_settled_round) := ⟨rfl, rfl, rfl, by decide +kernel, rfl, by decide +kernel, by decide +kernel⟩
abbrev s_Course__play_round : Stmt := inClass (topS 4) 7
abbrev n_Course__play_round : List Str := ["self", "stock", "stocks", "bake", "demand", "most", "left"]
abbrev p_Course__play_round : List Str := ["self", "stock"]
theorem sc_Course__play_round : FnScope n_Course__play_round p_Course__play_round (defScope s_Course__play_round) := ⟨rfl, rfl, rfl, by decide +kernel, rfl, by decide +kernel, by decide +kernel⟩
abbrev s_Course__stocks_in : Stmt := inClass (topS 4) 8
abbrev n_Course__stocks_in : List Str := ["self", "rounds", "start"]
abbrev p_Course__stocks_in : List Str := ["self", "rounds"]
theorem sc_Course__stocks_in : FnScope n_Course__stocks_in p_Course__stocks_in (defScope s_Course__stocks_in) := ⟨rfl, rfl, rfl, by decide +kernel, rfl, by decide +kernel, by decide +kernel⟩
abbrev s_Course__misses_in : Stmt := inClass (topS 4) 9
abbrev n_Course__misses_in : List Str := ["self", "rounds", "stocks", "at", "demand"]
abbrev p_Course__misses_in : List Str := ["self", "rounds"]
theorem sc_Course__misses_in : FnScope n_Course__misses_in p_Course__misses_in (defScope s_Course__misses_in) := ⟨rfl, rfl, rfl, by decide +kernel, rfl, by decide +kernel, by decide +kernel⟩
abbrev s_Course__count_growing : Stmt := inClass (topS 4) 10
abbrev n_Course__count_growing : List Str := ["self"]
abbrev p_Course__count_growing : List Str := ["self"]
theorem sc_Course__count_growing : FnScope n_Course__count_growing p_Course__count_growing (defScope s_Course__count_growing) := ⟨rfl, rfl, rfl, by decide +kernel, rfl, by decide +kernel, by decide +kernel⟩
abbrev s_check_number : Stmt := topS 12
abbrev n_check_number : List Str := ["number", "lowest", "highest"]
abbrev p_check_number : List Str := ["number", "lowest", "highest"]
theorem sc_check_number : FnScope n_check_number p_check_number (defScope s_check_number) := ⟨rfl, rfl, rfl, by decide +kernel, rfl, by decide +kernel, by decide +kernel⟩
abbrev s_check_amounts : Stmt := topS 14
abbrev n_check_amounts : List Str := ["part", "amounts", "at", "amount"]
abbrev p_check_amounts : List Str := ["part", "amounts"]
theorem sc_check_amounts : FnScope n_check_amounts p_check_amounts (defScope s_check_amounts) := ⟨rfl, rfl, rfl, by decide +kernel, rfl, by decide +kernel, by decide +kernel⟩
abbrev s_check_life : Stmt := topS 15
abbrev n_check_life : List Str := ["life"]
abbrev p_check_life : List Str := ["life"]
theorem sc_check_life : FnScope n_check_life p_check_life (defScope s_check_life) := ⟨rfl, rfl, rfl, by decide +kernel, rfl, by decide +kernel, by decide +kernel⟩
abbrev s_check_bakery : Stmt := topS 16
abbrev n_check_bakery : List Str := ["bakes", "demands", "life"]
abbrev p_check_bakery : List Str := ["bakes", "demands", "life"]
theorem sc_check_bakery : FnScope n_check_bakery p_check_bakery (defScope s_check_bakery) := ⟨rfl, rfl, rfl, by decide +kernel, rfl, by decide +kernel, by decide +kernel⟩
abbrev s_Bakery___init__ : Stmt := inClass (topS 17) 2
abbrev n_Bakery___init__ : List Str := ["self", "bakes", "demands", "life"]
abbrev p_Bakery___init__ : List Str := ["self", "bakes", "demands", "life"]
theorem sc_Bakery___init__ : FnScope n_Bakery___init__ p_Bakery___init__ (defScope s_Bakery___init__) := ⟨rfl, rfl, rfl, by decide +kernel, rfl, by decide +kernel, by decide +kernel⟩
abbrev s_Bakery_settled_day : Stmt := inClass (topS 17) 6
abbrev n_Bakery_settled_day : List Str := ["self"]
abbrev p_Bakery_settled_day : List Str := ["self"]
theorem sc_Bakery_settled_day : FnScope n_Bakery_settled_day p_Bakery_settled_day (defScope s_Bakery_settled_day) := ⟨rfl, rfl, rfl, by decide +kernel, rfl, by decide +kernel, by decide +kernel⟩
abbrev s_Bakery_long_run : Stmt := inClass (topS 17) 7
abbrev n_Bakery_long_run : List Str := ["self"]
abbrev p_Bakery_long_run : List Str := ["self"]
theorem sc_Bakery_long_run : FnScope n_Bakery_long_run p_Bakery_long_run (defScope s_Bakery_long_run) := ⟨rfl, rfl, rfl, by decide +kernel, rfl, by decide +kernel, by decide +kernel⟩
abbrev s_Bakery_stock : Stmt := inClass (topS 17) 10
abbrev n_Bakery_stock : List Str := ["self", "day"]
abbrev p_Bakery_stock : List Str := ["self", "day"]
theorem sc_Bakery_stock : FnScope n_Bakery_stock p_Bakery_stock (defScope s_Bakery_stock) := ⟨rfl, rfl, rfl, by decide +kernel, rfl, by decide +kernel, by decide +kernel⟩
abbrev s_Bakery_sold : Stmt := inClass (topS 17) 11
abbrev n_Bakery_sold : List Str := ["self", "day"]
abbrev p_Bakery_sold : List Str := ["self", "day"]
theorem sc_Bakery_sold : FnScope n_Bakery_sold p_Bakery_sold (defScope s_Bakery_sold) := ⟨rfl, rfl, rfl, by decide +kernel, rfl, by decide +kernel, by decide +kernel⟩
abbrev s_Bakery_missed : Stmt := inClass (topS 17) 12
abbrev n_Bakery_missed : List Str := ["self", "day"]
abbrev p_Bakery_missed : List Str := ["self", "day"]
theorem sc_Bakery_missed : FnScope n_Bakery_missed p_Bakery_missed (defScope s_Bakery_missed) := ⟨rfl, rfl, rfl, by decide +kernel, rfl, by decide +kernel, by decide +kernel⟩
abbrev s_Bakery_totals : Stmt := inClass (topS 17) 14
abbrev n_Bakery_totals : List Str := ["self", "days"]
abbrev p_Bakery_totals : List Str := ["self", "days"]
theorem sc_Bakery_totals : FnScope n_Bakery_totals p_Bakery_totals (defScope s_Bakery_totals) := ⟨rfl, rfl, rfl, by decide +kernel, rfl, by decide +kernel, by decide +kernel⟩
abbrev s_Bakery_shelf : Stmt := inClass (topS 17) 15
abbrev n_Bakery_shelf : List Str := ["self", "day"]
abbrev p_Bakery_shelf : List Str := ["self", "day"]
theorem sc_Bakery_shelf : FnScope n_Bakery_shelf p_Bakery_shelf (defScope s_Bakery_shelf) := ⟨rfl, rfl, rfl, by decide +kernel, rfl, by decide +kernel, by decide +kernel⟩
abbrev s__law_mix : Stmt := topS 19
abbrev n__law_mix : List Str := ["_law_script", "_law_seed", "_law_mixed", "_law_cell"]
abbrev p__law_mix : List Str := ["_law_script", "_law_seed"]
theorem sc__law_mix : FnScope n__law_mix p__law_mix (defScope s__law_mix) := ⟨rfl, rfl, rfl, by decide +kernel, rfl, by decide +kernel, by decide +kernel⟩
abbrev s__law_next : Stmt := topS 20
abbrev n__law_next : List Str := ["_law_h", "_law_limit", "_law_cell"]
abbrev p__law_next : List Str := ["_law_h", "_law_limit"]
theorem sc__law_next : FnScope n__law_next p__law_next (defScope s__law_next) := ⟨rfl, rfl, rfl, by decide +kernel, rfl, by decide +kernel, by decide +kernel⟩
abbrev s__law_amounts : Stmt := topS 22
abbrev n__law_amounts : List Str := ["_law_h", "_law_count", "_law_wide", "_law_k"]
abbrev p__law_amounts : List Str := ["_law_h", "_law_count", "_law_wide"]
theorem sc__law_amounts : FnScope n__law_amounts p__law_amounts (defScope s__law_amounts) := ⟨rfl, rfl, rfl, by decide +kernel, rfl, by decide +kernel, by decide +kernel⟩
abbrev s__law_parts : Stmt := topS 23
abbrev n__law_parts : List Str := ["_law_h", "_law_most", "_law_wide", "_law_count", "_law_bakes", "_law_demands", "_law_k", "_law_more"]
abbrev p__law_parts : List Str := ["_law_h", "_law_most", "_law_wide"]
theorem sc__law_parts : FnScope n__law_parts p__law_parts (defScope s__law_parts) := ⟨rfl, rfl, rfl, by decide +kernel, rfl, by decide +kernel, by decide +kernel⟩
abbrev s__law_alike : Stmt := topS 21
abbrev n__law_alike : List Str := ["_law_found", "_law_due", "_law_k"]
abbrev p__law_alike : List Str := ["_law_found", "_law_due"]
theorem sc__law_alike : FnScope n__law_alike p__law_alike (defScope s__law_alike) := ⟨rfl, rfl, rfl, by decide +kernel, rfl, by decide +kernel, by decide +kernel⟩
abbrev s__law_constant_right : Stmt := topS 24
abbrev n__law_constant_right : List Str := ["_law_h", "_law_bake", "_law_demand", "_law_life", "_law_bakery", "_law_day", "_law_stock", "_law_due", "_law_sold"]
abbrev p__law_constant_right : List Str := ["_law_h"]
theorem sc__law_constant_right : FnScope n__law_constant_right p__law_constant_right (defScope s__law_constant_right) := ⟨rfl, rfl, rfl, by decide +kernel, rfl, by decide +kernel, by decide +kernel⟩
abbrev s_law : Stmt := topS 25
abbrev n_law : List Str := ["_law_script", "_law_h", "_law_turn", "_law_bakes", "_law_demands", "_law_life", "_law_size", "_law_day", "_law_short", "_law_sales", "_law_due", "_law_times", "_law_one", "_law_many", "_law_k", "_law_bake", "_law_wish", "_law_baked", "_law_count", "_law_part"]
abbrev p_law : List Str := ["_law_script"]
theorem sc_law : FnScope n_law p_law (defScope s_law) := ⟨rfl, rfl, rfl, by decide +kernel, rfl, by decide +kernel, by decide +kernel⟩
structure Ad where
  c_Course : Addr
  c_Bakery : Addr
  mc_Course : Value
  mc_Bakery : Value
  pr_Bakery_settled_day : Addr
  pr_Bakery_long_run : Addr
  t_MOST_LOAVES : Tok
  t_LAST_DAY : Tok
  f_count_keepable : Addr
  d_count_keepable : FuncData
  f_sum_repeated : Addr
  d_sum_repeated : FuncData
  f_Course___init__ : Addr
  d_Course___init__ : FuncData
  f_Course_stock_at : Addr
  d_Course_stock_at : FuncData
  f_Course_sales_on : Addr
  d_Course_sales_on : FuncData
  f_Course_sales_before : Addr
  d_Course_sales_before : FuncData
  f_Course_loaves_at : Addr
  d_Course_loaves_at : FuncData
  f_Course_find_settled : Addr
  d_Course_find_settled : FuncData
  f_Course_sum_settled_round : Addr
  d_Course_sum_settled_round : FuncData
  f_Course__play_round : Addr
  d_Course__play_round : FuncData
  f_Course__stocks_in : Addr
  d_Course__stocks_in : FuncData
  f_Course__misses_in : Addr
  d_Course__misses_in : FuncData
  f_Course__count_growing : Addr
  d_Course__count_growing : FuncData
  f_check_number : Addr
  d_check_number : FuncData
  f_check_amounts : Addr
  d_check_amounts : FuncData
  f_check_life : Addr
  d_check_life : FuncData
  f_check_bakery : Addr
  d_check_bakery : FuncData
  f_Bakery___init__ : Addr
  d_Bakery___init__ : FuncData
  f_Bakery_settled_day : Addr
  d_Bakery_settled_day : FuncData
  f_Bakery_long_run : Addr
  d_Bakery_long_run : FuncData
  f_Bakery_stock : Addr
  d_Bakery_stock : FuncData
  f_Bakery_sold : Addr
  d_Bakery_sold : FuncData
  f_Bakery_missed : Addr
  d_Bakery_missed : FuncData
  f_Bakery_totals : Addr
  d_Bakery_totals : FuncData
  f_Bakery_shelf : Addr
  d_Bakery_shelf : FuncData
  f__law_mix : Addr
  d__law_mix : FuncData
  f__law_next : Addr
  d__law_next : FuncData
  f__law_amounts : Addr
  d__law_amounts : FuncData
  f__law_parts : Addr
  d__law_parts : FuncData
  f__law_alike : Addr
  d__law_alike : FuncData
  f__law_constant_right : Addr
  d__law_constant_right : FuncData
  f_law : Addr
  d_law : FuncData
structure Txt (K : PySem.W.Frag) (mg : Str → Option Value) (Z : Ad) : Prop where
  cl_Course : Cls K Z.c_Course
  g_Course : mg "Course" = some (.ref Z.c_Course)
  mk_Course : Mk K Z.c_Course Z.f_Course___init__
  na_Course__bakes : NoAttr K Z.c_Course "_bakes"
  na_Course__demands : NoAttr K Z.c_Course "_demands"
  na_Course__keepable : NoAttr K Z.c_Course "_keepable"
  na_Course__gain : NoAttr K Z.c_Course "_gain"
  na_Course__first_end : NoAttr K Z.c_Course "_first_end"
  na_Course__full_end : NoAttr K Z.c_Course "_full_end"
  na_Course__first_misses : NoAttr K Z.c_Course "_first_misses"
  na_Course__later_misses : NoAttr K Z.c_Course "_later_misses"
  cl_Bakery : Cls K Z.c_Bakery
  g_Bakery : mg "Bakery" = some (.ref Z.c_Bakery)
  mk_Bakery : Mk K Z.c_Bakery Z.f_Bakery___init__
  na_Bakery__bakes : NoAttr K Z.c_Bakery "_bakes"
  na_Bakery__demands : NoAttr K Z.c_Bakery "_demands"
  na_Bakery__life : NoAttr K Z.c_Bakery "_life"
  na_Bakery_course : NoAttr K Z.c_Bakery "course"
  na_Bakery__settled_day : NoAttr K Z.c_Bakery "_settled_day"
  na_Bakery__long_run : NoAttr K Z.c_Bakery "_long_run"
  cv_Bakery_MAX_DAYS : ClX.CRead K Z.c_Bakery Z.mc_Bakery ∧ ∃ u, ClX.CVal K Z.c_Bakery Z.mc_Bakery "MAX_DAYS" (.int 24) u
  cv_Bakery_MAX_LIFE : ClX.CRead K Z.c_Bakery Z.mc_Bakery ∧ ∃ u, ClX.CVal K Z.c_Bakery Z.mc_Bakery "MAX_LIFE" (.int 30) u
  g_MOST_LOAVES : mg "MOST_LOAVES" = some (.int 1000000000 Z.t_MOST_LOAVES)
  g_LAST_DAY : mg "LAST_DAY" = some (.int 1000000000000000000 Z.t_LAST_DAY)
  b_bool : mg "bool" = none
  b_dict : mg "dict" = none
  b_divmod : mg "divmod" = none
  b_enumerate : mg "enumerate" = none
  b_int : mg "int" = none
  b_isinstance : mg "isinstance" = none
  b_len : mg "len" = none
  b_list : mg "list" = none
  b_max : mg "max" = none
  b_min : mg "min" = none
  b_range : mg "range" = none
  b_str : mg "str" = none
  b_sum : mg "sum" = none
  b_tuple : mg "tuple" = none
  b_zip : mg "zip" = none
  F_count_keepable : Fun K "count_keepable" "count_keepable" s_count_keepable Z.f_count_keepable Z.d_count_keepable
  b_count_keepable : Binds K Z.d_count_keepable p_count_keepable []
  g_count_keepable : mg "count_keepable" = some (.ref Z.f_count_keepable)
  F_sum_repeated : Fun K "sum_repeated" "sum_repeated" s_sum_repeated Z.f_sum_repeated Z.d_sum_repeated
  b_sum_repeated : Binds K Z.d_sum_repeated p_sum_repeated []
  g_sum_repeated : mg "sum_repeated" = some (.ref Z.f_sum_repeated)
  F_Course___init__ : Fun K "__init__" "Course.__init__" s_Course___init__ Z.f_Course___init__ Z.d_Course___init__
  b_Course___init__ : Binds K Z.d_Course___init__ p_Course___init__ []
  F_Course_stock_at : Fun K "stock_at" "Course.stock_at" s_Course_stock_at Z.f_Course_stock_at Z.d_Course_stock_at
  b_Course_stock_at : Binds K Z.d_Course_stock_at p_Course_stock_at []
  m_Course_stock_at : Meth K Z.c_Course "stock_at" Z.f_Course_stock_at
  F_Course_sales_on : Fun K "sales_on" "Course.sales_on" s_Course_sales_on Z.f_Course_sales_on Z.d_Course_sales_on
  b_Course_sales_on : Binds K Z.d_Course_sales_on p_Course_sales_on []
  m_Course_sales_on : Meth K Z.c_Course "sales_on" Z.f_Course_sales_on
  F_Course_sales_before : Fun K "sales_before" "Course.sales_before" s_Course_sales_before Z.f_Course_sales_before Z.d_Course_sales_before
  b_Course_sales_before : Binds K Z.d_Course_sales_before p_Course_sales_before []
  m_Course_sales_before : Meth K Z.c_Course "sales_before" Z.f_Course_sales_before
  F_Course_loaves_at : Fun K "loaves_at" "Course.loaves_at" s_Course_loaves_at Z.f_Course_loaves_at Z.d_Course_loaves_at
  b_Course_loaves_at : Binds K Z.d_Course_loaves_at p_Course_loaves_at []
  m_Course_loaves_at : Meth K Z.c_Course "loaves_at" Z.f_Course_loaves_at
  F_Course_find_settled : Fun K "find_settled" "Course.find_settled" s_Course_find_settled Z.f_Course_find_settled Z.d_Course_find_settled
  b_Course_find_settled : Binds K Z.d_Course_find_settled p_Course_find_settled []
  m_Course_find_settled : Meth K Z.c_Course "find_settled" Z.f_Course_find_settled
  F_Course_sum_settled_round : Fun K "sum_settled_round" "Course.sum_settled_round" s_Course_sum_settled_round Z.f_Course_sum_settled_round Z.d_Course_sum_settled_round
  b_Course_sum_settled_round : Binds K Z.d_Course_sum_settled_round p_Course_sum_settled_round []
  m_Course_sum_settled_round : Meth K Z.c_Course "sum_settled_round" Z.f_Course_sum_settled_round
  F_Course__play_round : Fun K "_play_round" "Course._play_round" s_Course__play_round Z.f_Course__play_round Z.d_Course__play_round
  b_Course__play_round : Binds K Z.d_Course__play_round p_Course__play_round []
  m_Course__play_round : Meth K Z.c_Course "_play_round" Z.f_Course__play_round
  F_Course__stocks_in : Fun K "_stocks_in" "Course._stocks_in" s_Course__stocks_in Z.f_Course__stocks_in Z.d_Course__stocks_in
  b_Course__stocks_in : Binds K Z.d_Course__stocks_in p_Course__stocks_in []
  m_Course__stocks_in : Meth K Z.c_Course "_stocks_in" Z.f_Course__stocks_in
  F_Course__misses_in : Fun K "_misses_in" "Course._misses_in" s_Course__misses_in Z.f_Course__misses_in Z.d_Course__misses_in
  b_Course__misses_in : Binds K Z.d_Course__misses_in p_Course__misses_in []
  m_Course__misses_in : Meth K Z.c_Course "_misses_in" Z.f_Course__misses_in
  F_Course__count_growing : Fun K "_count_growing" "Course._count_growing" s_Course__count_growing Z.f_Course__count_growing Z.d_Course__count_growing
  b_Course__count_growing : Binds K Z.d_Course__count_growing p_Course__count_growing []
  m_Course__count_growing : Meth K Z.c_Course "_count_growing" Z.f_Course__count_growing
  F_check_number : Fun K "check_number" "check_number" s_check_number Z.f_check_number Z.d_check_number
  b_check_number : Binds K Z.d_check_number p_check_number []
  g_check_number : mg "check_number" = some (.ref Z.f_check_number)
  F_check_amounts : Fun K "check_amounts" "check_amounts" s_check_amounts Z.f_check_amounts Z.d_check_amounts
  b_check_amounts : Binds K Z.d_check_amounts p_check_amounts []
  g_check_amounts : mg "check_amounts" = some (.ref Z.f_check_amounts)
  F_check_life : Fun K "check_life" "check_life" s_check_life Z.f_check_life Z.d_check_life
  b_check_life : Binds K Z.d_check_life p_check_life []
  g_check_life : mg "check_life" = some (.ref Z.f_check_life)
  F_check_bakery : Fun K "check_bakery" "check_bakery" s_check_bakery Z.f_check_bakery Z.d_check_bakery
  b_check_bakery : Binds K Z.d_check_bakery p_check_bakery []
  g_check_bakery : mg "check_bakery" = some (.ref Z.f_check_bakery)
  F_Bakery___init__ : Fun K "__init__" "Bakery.__init__" s_Bakery___init__ Z.f_Bakery___init__ Z.d_Bakery___init__
  b_Bakery___init__ : Binds K Z.d_Bakery___init__ p_Bakery___init__ []
  F_Bakery_settled_day : Fun K "settled_day" "Bakery.settled_day" s_Bakery_settled_day Z.f_Bakery_settled_day Z.d_Bakery_settled_day
  b_Bakery_settled_day : Binds K Z.d_Bakery_settled_day p_Bakery_settled_day []
  pp_Bakery_settled_day : PropOf K Z.c_Bakery "settled_day" Z.pr_Bakery_settled_day Z.f_Bakery_settled_day
  F_Bakery_long_run : Fun K "long_run" "Bakery.long_run" s_Bakery_long_run Z.f_Bakery_long_run Z.d_Bakery_long_run
  b_Bakery_long_run : Binds K Z.d_Bakery_long_run p_Bakery_long_run []
  pp_Bakery_long_run : PropOf K Z.c_Bakery "long_run" Z.pr_Bakery_long_run Z.f_Bakery_long_run
  F_Bakery_stock : Fun K "stock" "Bakery.stock" s_Bakery_stock Z.f_Bakery_stock Z.d_Bakery_stock
  b_Bakery_stock : Binds K Z.d_Bakery_stock p_Bakery_stock []
  m_Bakery_stock : Meth K Z.c_Bakery "stock" Z.f_Bakery_stock
  F_Bakery_sold : Fun K "sold" "Bakery.sold" s_Bakery_sold Z.f_Bakery_sold Z.d_Bakery_sold
  b_Bakery_sold : Binds K Z.d_Bakery_sold p_Bakery_sold []
  m_Bakery_sold : Meth K Z.c_Bakery "sold" Z.f_Bakery_sold
  F_Bakery_missed : Fun K "missed" "Bakery.missed" s_Bakery_missed Z.f_Bakery_missed Z.d_Bakery_missed
  b_Bakery_missed : Binds K Z.d_Bakery_missed p_Bakery_missed []
  m_Bakery_missed : Meth K Z.c_Bakery "missed" Z.f_Bakery_missed
  F_Bakery_totals : Fun K "totals" "Bakery.totals" s_Bakery_totals Z.f_Bakery_totals Z.d_Bakery_totals
  b_Bakery_totals : Binds K Z.d_Bakery_totals p_Bakery_totals []
  m_Bakery_totals : Meth K Z.c_Bakery "totals" Z.f_Bakery_totals
  F_Bakery_shelf : Fun K "shelf" "Bakery.shelf" s_Bakery_shelf Z.f_Bakery_shelf Z.d_Bakery_shelf
  b_Bakery_shelf : Binds K Z.d_Bakery_shelf p_Bakery_shelf []
  m_Bakery_shelf : Meth K Z.c_Bakery "shelf" Z.f_Bakery_shelf
  F__law_mix : Fun K "_law_mix" "_law_mix" s__law_mix Z.f__law_mix Z.d__law_mix
  b__law_mix : Binds K Z.d__law_mix p__law_mix []
  g__law_mix : mg "_law_mix" = some (.ref Z.f__law_mix)
  F__law_next : Fun K "_law_next" "_law_next" s__law_next Z.f__law_next Z.d__law_next
  b__law_next : Binds K Z.d__law_next p__law_next []
  g__law_next : mg "_law_next" = some (.ref Z.f__law_next)
  F__law_amounts : Fun K "_law_amounts" "_law_amounts" s__law_amounts Z.f__law_amounts Z.d__law_amounts
  b__law_amounts : Binds K Z.d__law_amounts p__law_amounts []
  g__law_amounts : mg "_law_amounts" = some (.ref Z.f__law_amounts)
  F__law_parts : Fun K "_law_parts" "_law_parts" s__law_parts Z.f__law_parts Z.d__law_parts
  b__law_parts : Binds K Z.d__law_parts p__law_parts []
  g__law_parts : mg "_law_parts" = some (.ref Z.f__law_parts)
  F__law_alike : Fun K "_law_alike" "_law_alike" s__law_alike Z.f__law_alike Z.d__law_alike
  b__law_alike : Binds K Z.d__law_alike p__law_alike []
  g__law_alike : mg "_law_alike" = some (.ref Z.f__law_alike)
  F__law_constant_right : Fun K "_law_constant_right" "_law_constant_right" s__law_constant_right Z.f__law_constant_right Z.d__law_constant_right
  b__law_constant_right : Binds K Z.d__law_constant_right p__law_constant_right []
  g__law_constant_right : mg "_law_constant_right" = some (.ref Z.f__law_constant_right)
  F_law : Fun K "law" "law" s_law Z.f_law Z.d_law
  b_law : Binds K Z.d_law p_law []
  g_law : mg "law" = some (.ref Z.f_law)
end Sw
namespace Sw
open PySem PySem.Spec PyProof.Rows L2 Evl
/-! ### the mirror: what the package computes -/
def keepAt (bs : List Int) (life : Int) (i : Nat) : Int := ((List.range (life - 1).toNat).map fun (age : Nat) => bs.getD ((((i : Int) - (age : Int)) % (bs.length : Int)).toNat) 0).sum
def keepL (bs : List Int) (life : Int) : List Int := (List.range bs.length).map (keepAt bs life)
def sumRep (am : List Int) (days : Int) : Int := days / (am.length : Int) * am.sum + (am.take (days % (am.length : Int)).toNat).sum
def stp (s b d k : Int) : Int := min (max 0 (s + b - d)) k
def stkAt (bs ds ks : List Int) (s : Int) : Nat → Int
  | 0 => s
  | i + 1 => stp (stkAt bs ds ks s i) (bs.getD i 0) (ds.getD i 0) (ks.getD i 0)
def stkL (bs ds ks : List Int) (s : Int) : List Int := (List.range (bs.length + 1)).map (stkAt bs ds ks s)
/-! ### an instance's fields, for the walk -/
/-- the instance at a has the field, and its class lets it be read -/
structure FlK (K : PySem.W.Frag) (H : Hp) (a C : Addr) (f : Str) (v : V) : Prop where
  fl : Fl H a C f v
  cl : Cls K C
  na : NoAttr K C f
section
variable {K : PySem.W.Frag} {σ : L2.St} {H H' : Hp} {ta tb te tx : TE} {x y z v : V} {a C dx : Addr} {fs : List (Str × V)} {f m : Str}
theorem FlK.mono (e : Ex H H') (h : FlK K H a C f v) : FlK K H' a C f v := ⟨h.fl.mono e, h.cl, h.na⟩
theorem ev_fldK (h : Ev ta σ H (.ref a)) (hf : FlK K H a C f v) : Ev (tFld K ta f) σ H v := ev_fld h hf.fl hf.cl hf.na
theorem atI_mapI {ns : List Int} {i : Int} (h0 : 0 ≤ i) (h1 : i < ns.length) : atI (ns.map V.int) i = some (.int (ns.getD i.toNat 0)) := by
  rw [atI_at (d := V.int 0) h0 (by rw [List.length_map]; exact h1)]
  simp [List.getD]
theorem rng_map {n : Nat} (f : Nat → Int) : (List.range n).map (fun i => V.int (f i)) = ((List.range n).map f).map V.int := by
  rw [List.map_map]; rfl
end
theorem wide_ok {i j : Int} (h : j.natAbs < 2 ^ 60) : CMul i j := .inr (by omega)
local macro_rules | `(tactic| walk_at "ev") => `(tactic| first
  | exact ev_c
  | exact ev_var rfl
  | ((with_reducible show Ev (tCB rMax2 _) _ _ _); exact ev_maxi (by walk_at "ev") (by walk_at "ev"))
  | ((with_reducible show Ev (tCB rMn _) _ _ _); exact ev_min2 (by walk_at "ev") (by walk_at "ev"))
  | ((with_reducible show Ev (tUn _ _) _ _ _); exact ev_un (by walk_at "ev") ru_neg)
  | ((with_reducible show Ev (tFld _ _ _) _ _ _); exact ev_fldK (by walk_at "ev") (by assumption))
  | ((with_reducible show Ev (tOp (rI0 _) _ _) _ _ _); exact ev_op (by walk_at "ev") (by walk_at "ev") rv_I0)
  | ((with_reducible show Ev (tOp rEq _ _) _ _ _); exact ev_op (by walk_at "ev") (by walk_at "ev") (rv_eq rfl))
  | ((with_reducible show Ev (tOp rNe _ _) _ _ _); exact ev_op (by walk_at "ev") (by walk_at "ev") (rv_ne rfl)))

variable {P : Program} {w : World} {K : PySem.W.Frag} {mg : Str → Option Value} {base : Heap} {Z : Ad}
def sp_count_keepable (K : PySem.W.Frag) : Sp := fun vs H Q _ => ∃ (a : Addr) (bs : List Int) (life : Int), vs = [.ref a, .int life] ∧ SqT K H a (bs.map V.int) ∧ 0 < bs.length ∧ bs.length ≤ 24 ∧ 1 ≤ life ∧ life ≤ 30 ∧
  RetL ((keepL bs life).map V.int) H Q
theorem ok_count_keepable (T : Txt K mg Z) : FnOk P w K mg base CX0 1 Z.f_count_keepable Z.d_count_keepable p_count_keepable (sp_count_keepable K) := by
  refine T.F_count_keepable.ok sc_count_keepable (fun vs H Q E h => ?_) (fun cdv Ar outer s H vs Q E hr h => ?_)
  · obtain ⟨a, bs, life, rfl, _⟩ := h
    rfl
  · obtain ⟨a, bs, life, rfl, hS, h0, h1, h2, h3, k⟩ := h
    refine ⟨_, (pss_cons (ps_set (i := 2) sc_count_keepable.nd rfl (Or.inr rfl) (pe_callB (r := rLenS K) (call_len_seq) (by rfl) T.b_len boot_len (pa_cons (pv 0) pa_nil)))
      (pss_one (ps_ret (pe_lc (own := [("at", 3)]) rfl sc_count_keepable.nd (pi_range1 (by rfl) T.b_range (pa_cons (pv 2) pa_nil)) (blkOk_by (own := [("at", 3)]) (N := n_count_keepable) (sc := defScope s_count_keepable) (scope := { kind := PySem.ScopeKind.function, names := [ (PySem.Str.ofString ".0", PySem.NameKind.local), (PySem.Str.ofString "at", PySem.NameKind.cell), (PySem.Str.ofString "sum", PySem.NameKind.globalImplicit), (PySem.Str.ofString "range", PySem.NameKind.globalImplicit), (PySem.Str.ofString "bakes", PySem.NameKind.free), (PySem.Str.ofString "length", PySem.NameKind.free), (PySem.Str.ofString "life", PySem.NameKind.free)], isGenerator := false, isCoroutine := false, more := [] : PySem.Scope }) (by decide +kernel)) (fun _ _ _ _ _ => (pg_name (i := 3) sc_count_keepable.nd rfl (Or.inr rfl))) (fun _ _ _ _ _ => pts_nil) (fun _ _ _ _ _ => (pe_callB (r := rSum K) (cr_sum rfl) (by rfl) T.b_sum boot_sum (pa_cons (pe_lc (own := [("age", 4)]) rfl sc_count_keepable.nd (pi_range1 (by rfl) T.b_range (pa_cons (pe_op op_sub (pv 1) pe_int) pa_nil)) (blkOk_by (own := [("age", 4)]) (N := n_count_keepable) (sc := { kind := PySem.ScopeKind.function, names := [ (PySem.Str.ofString ".0", PySem.NameKind.local), (PySem.Str.ofString "at", PySem.NameKind.cell), (PySem.Str.ofString "sum", PySem.NameKind.globalImplicit), (PySem.Str.ofString "range", PySem.NameKind.globalImplicit), (PySem.Str.ofString "bakes", PySem.NameKind.cell), (PySem.Str.ofString "length", PySem.NameKind.cell), (PySem.Str.ofString "life", PySem.NameKind.cell)], isGenerator := false, isCoroutine := false, more := [] : PySem.Scope }) (scope := { kind := PySem.ScopeKind.function, names := [ (PySem.Str.ofString ".0", PySem.NameKind.local), (PySem.Str.ofString "age", PySem.NameKind.local), (PySem.Str.ofString "at", PySem.NameKind.free), (PySem.Str.ofString "bakes", PySem.NameKind.free), (PySem.Str.ofString "length", PySem.NameKind.free)], isGenerator := false, isCoroutine := false, more := [] : PySem.Scope }) (by decide +kernel)) (fun _ _ _ _ _ => (pg_name (i := 4) sc_count_keepable.nd rfl (Or.inl rfl))) (fun _ _ _ _ _ => pts_nil) (fun _ _ _ _ _ => (pe_ix (r := rIxT K) ix_tup (pv 0) (pe_op op_mod (pe_op op_sub (pv 3) (pv 4)) (pv 2)) (fun _ _ => rfl)))) pa_nil))))))), ?_⟩
    refine q_asg (ev_lenT (ev_var rfl) hS) fun H1 e1 => ?_
    have hS1 := ex_t e1 hS
    have hl : ((bs.map V.int).length : Int) = (bs.length : Int) := by rw [List.length_map]
    rw [hl]
    refine s_retL (xs := (keepL bs life).map V.int) ?_ fun p H2 hp e2 h2 => k p H2 (fresh_back e1 hp) (e1.trans e2) h2
    unfold keepL
    rw [← rng_map]
    refine el_lcR (n := (bs.length : Int)) (fun i => V.int (keepAt bs life i)) (ea_cons (ev_var rfl) ea_nil) ⟨by omega, by omega⟩ (fun _ => rfl) fun i H3 e3 hi => ?_
    unfold keepAt
    refine ev_sumN ?_
    rw [← rng_map]
    refine el_lcR (n := life - 1) _ (ea_cons (by walk_at "ev") ea_nil) ⟨by omega, by omega⟩ (fun _ => rfl) fun j H4 e4 hj => ?_
    have hm0 : 0 ≤ ((i : Int) - (j : Int)) % (bs.length : Int) := Int.emod_nonneg _ (by omega)
    have hm1 : ((i : Int) - (j : Int)) % (bs.length : Int) < (bs.length : Int) := Int.emod_lt_of_pos _ (by omega)
    exact ev_ixT (ev_var rfl) (ex_t (e3.trans e4) hS1) (ev_op (by walk_at "ev") (by walk_at "ev") (rv_I (by show (0 : Int) < _; omega))) (atI_mapI hm0 hm1)
def sp_sum_repeated (K : PySem.W.Frag) : Sp := fun vs H Q _ => ∃ (a : Addr) (am : List Int) (days : Int), vs = [.ref a, .int days] ∧ (SqT K H a (am.map V.int) ∨ SqL K H a (am.map V.int)) ∧ 0 < am.length ∧ am.length ≤ 24 ∧ am.sum.natAbs ≤ 2 ^ 40 ∧
  RetV (.int (sumRep am days)) H Q
theorem ok_sum_repeated (T : Txt K mg Z) : FnOk P w K mg base CX0 1 Z.f_sum_repeated Z.d_sum_repeated p_sum_repeated (sp_sum_repeated K) := by
  refine T.F_sum_repeated.ok sc_sum_repeated (fun vs H Q E h => ?_) (fun cdv Ar outer s H vs Q E hr h => ?_)
  · obtain ⟨a, am, days, rfl, _⟩ := h
    rfl
  · obtain ⟨a, am, days, rfl, hS, h0, h1, h2, k⟩ := h
    have hl : ((am.map V.int).length : Int) = (am.length : Int) := by rw [List.length_map]
    have hd : CDiv days (am.length : Int) := ⟨by omega, by omega⟩
    have hr0 : 0 ≤ days % (am.length : Int) := Int.emod_nonneg _ (by omega)
    have hr : days % (am.length : Int) = (((days % (am.length : Int)).toNat : Nat) : Int) := by omega
    rcases hS with hS | hS
    · refine ⟨_, (pss_cons (ps_asg (pe_callB (r := rDm) (call_divmod) (by rfl) T.b_divmod boot_divmod (pa_cons (pv 1) (pa_cons (pe_callB (r := rLenS K) (call_len_seq) (by rfl) T.b_len boot_len (pa_cons (pv 0) pa_nil)) pa_nil))) (by exact (pg_tupK K (n := 2) rfl rfl (pgs_cons (pg_name (i := 2) sc_sum_repeated.nd rfl (Or.inl rfl)) (pgs_cons (pg_name (i := 3) sc_sum_repeated.nd rfl (Or.inl rfl)) pgs_nil)))))
      (pss_one (ps_ret (pe_op op_add (pe_op op_mul (pv 2) (pe_callB (r := rSumT K) (cr_sumT rfl) (by rfl) T.b_sum boot_sum (pa_cons (pv 0) pa_nil))) (pe_callB (r := rSumT K) (cr_sumT rfl) (by rfl) T.b_sum boot_sum (pa_cons (pe_slice (r := rSlA K) sl_tupA (pv 0) po_none (po_some (pv 3))) pa_nil)))))), ?_⟩
      refine q_pair (eu_dm (ev_var rfl) (Ev.int_eq (ev_lenT (ev_var rfl) hS) hl) hd) fun H1 e1 => ?_
      refine s_ret ?_ fun H2 e2 => k H2 (e1.trans e2)
      refine ev_op (ev_op (ev_var rfl) (ev_sumT (ev_var rfl) (ex_t e1 hS)) (rv_I (wide_ok ?_))) (ev_sumW (ns := am.take (days % (am.length : Int)).toNat) ?_) rv_I0
      · omega
      · rw [List.map_take]
        exact ew_take (ew_of (ev_var rfl) (ex_t e1 hS)) (Ev.int_eq (ev_var rfl) hr)
    · refine ⟨_, (pss_cons (ps_asg (pe_callB (r := rDm) (call_divmod) (by rfl) T.b_divmod boot_divmod (pa_cons (pv 1) (pa_cons (pe_callB (r := rLenS K) (call_len_seq) (by rfl) T.b_len boot_len (pa_cons (pv 0) pa_nil)) pa_nil))) (by exact (pg_tupK K (n := 2) rfl rfl (pgs_cons (pg_name (i := 2) sc_sum_repeated.nd rfl (Or.inl rfl)) (pgs_cons (pg_name (i := 3) sc_sum_repeated.nd rfl (Or.inl rfl)) pgs_nil)))))
      (pss_one (ps_ret (pe_op op_add (pe_op op_mul (pv 2) (pe_callB (r := rSum K) (cr_sum rfl) (by rfl) T.b_sum boot_sum (pa_cons (pv 0) pa_nil))) (pe_callB (r := rSum K) (cr_sum rfl) (by rfl) T.b_sum boot_sum (pa_cons (pe_slice (r := rSlL K) sl_list (pv 0) po_none (po_some (pv 3))) pa_nil)))))), ?_⟩
      refine q_pair (eu_dm (ev_var rfl) (Ev.int_eq (ev_len (ev_var rfl) hS) hl) hd) fun H1 e1 => ?_
      refine s_ret ?_ fun H2 e2 => k H2 (e1.trans e2)
      refine ev_op (ev_op (ev_var rfl) (ev_sumL (ev_var rfl) (ex_l e1 hS)) (rv_I (wide_ok ?_))) (ev_sumM (ns := am.take (days % (am.length : Int)).toNat) ?_) rv_I0
      · omega
      · rw [List.map_take]
        exact EvL.m (el_take (em_of (ev_var rfl) (ex_l e1 hS)) (Ev.int_eq (ev_var rfl) hr))
end Sw
namespace Sw
open PySem PySem.Spec PyProof.Rows L2 Evl
local macro_rules | `(tactic| walk_at "ev") => `(tactic| first
  | exact ev_c
  | exact ev_var rfl
  | ((with_reducible show Ev (tCB rMax2 _) _ _ _); exact ev_maxi (by walk_at "ev") (by walk_at "ev"))
  | ((with_reducible show Ev (tCB rMn _) _ _ _); exact ev_min2 (by walk_at "ev") (by walk_at "ev"))
  | ((with_reducible show Ev (tUn _ _) _ _ _); exact ev_un (by walk_at "ev") ru_neg)
  | ((with_reducible show Ev (tFld _ _ _) _ _ _); exact ev_fldK (by walk_at "ev") (by assumption))
  | ((with_reducible show Ev (tOp (rI0 _) _ _) _ _ _); exact ev_op (by walk_at "ev") (by walk_at "ev") rv_I0)
  | ((with_reducible show Ev (tOp rEq _ _) _ _ _); exact ev_op (by walk_at "ev") (by walk_at "ev") (rv_eq rfl))
  | ((with_reducible show Ev (tOp rNe _ _) _ _ _); exact ev_op (by walk_at "ev") (by walk_at "ev") (rv_ne rfl)))

/-! ### the course: what its object holds -/
def start1 (gain first full : Int) (r : Int) : Int := if r = 0 then 0 else min full (first + (r - 1) * gain)
def missL (ds bs st : List Int) : List Int := (List.range ds.length).map fun i => max 0 (ds.getD i 0 - st.getD i 0 - bs.getD i 0)
def growing (gain first full : Int) : Int := if gain = 0 then 0 else -((first - full) / gain)
/-- bounds of what a bakery is made of -/
structure Good (bs ds : List Int) : Prop where
  n0 : 0 < bs.length
  n1 : bs.length ≤ 24
  ld : ds.length = bs.length
  b0 : ∀ x ∈ bs, 0 ≤ x ∧ x ≤ 1000000000
  d0 : ∀ x ∈ ds, 0 ≤ x ∧ x ≤ 1000000000
structure PR (K : PySem.W.Frag) (Z : Ad) (H : Hp) (c : Addr) (bs ds ks : List Int) (tb td tk : Addr) : Prop where
  fb : FlK K H c Z.c_Course "_bakes" (.ref tb)
  hb : SqT K H tb (bs.map V.int)
  fd : FlK K H c Z.c_Course "_demands" (.ref td)
  hd : SqT K H td (ds.map V.int)
  fk : FlK K H c Z.c_Course "_keepable" (.ref tk)
  hk : SqL K H tk (ks.map V.int)
  nf : NoF H c Z.c_Course "_play_round"
  gd : Good bs ds
  kl : ks.length = bs.length
structure SR (K : PySem.W.Frag) (Z : Ad) (H : Hp) (c : Addr) (bs ds ks : List Int) (tb td tk : Addr) (gain first full : Int) : Prop where
  pr : PR K Z H c bs ds ks tb td tk
  fg : FlK K H c Z.c_Course "_gain" (.int gain)
  ff : FlK K H c Z.c_Course "_first_end" (.int first)
  fu : FlK K H c Z.c_Course "_full_end" (.int full)
  nf : NoF H c Z.c_Course "_stocks_in"
  gb : gain.natAbs < 2 ^ 60
theorem PR.mono {K : PySem.W.Frag} {Z : Ad} {H H' : Hp} {c : Addr} {bs ds ks : List Int} {tb td tk : Addr} (e : Ex H H') (h : PR K Z H c bs ds ks tb td tk) : PR K Z H' c bs ds ks tb td tk :=
  ⟨h.fb.mono e, ex_t e h.hb, h.fd.mono e, ex_t e h.hd, h.fk.mono e, ex_l e h.hk, h.nf.mono e, h.gd, h.kl⟩
theorem SR.mono {K : PySem.W.Frag} {Z : Ad} {H H' : Hp} {c : Addr} {bs ds ks : List Int} {tb td tk : Addr} {gain first full : Int} (e : Ex H H') (h : SR K Z H c bs ds ks tb td tk gain first full) : SR K Z H' c bs ds ks tb td tk gain first full :=
  ⟨h.pr.mono e, h.fg.mono e, h.ff.mono e, h.fu.mono e, h.nf.mono e, h.gb⟩
theorem stkL_get {bs ds ks : List Int} {s : Int} {i : Nat} (h : i ≤ bs.length) : (stkL bs ds ks s).getD i 0 = stkAt bs ds ks s i := by
  unfold stkL
  simp [List.getD, List.getElem?_map, List.getElem?_range (show i < bs.length + 1 by omega)]
theorem stkL_len {bs ds ks : List Int} {s : Int} : (stkL bs ds ks s).length = bs.length + 1 := by simp [stkL]
theorem atI_last {α : Type} {xs : List α} {x : α} : atI (xs ++ [x]) (-1) = some x := by
  have e : ixN (xs ++ [x]).length (-1) = some xs.length := by
    unfold ixN
    rw [List.length_append, List.length_singleton]
    rw [if_neg (by omega), if_pos (by omega)]
    congr 1
    omega
  unfold atI
  rw [e]
  simp
theorem at_map {ns : List Int} {i : Nat} {x : V} (h : (ns.map V.int)[i]? = some x) : x = .int (ns.getD i 0) ∧ i < ns.length := by
  rw [List.getElem?_map] at h
  cases e : ns[i]? with
  | none => rw [e] at h; cases h
  | some z =>
    rw [e] at h
    have hi := (List.getElem?_eq_some_iff.mp e).1
    refine ⟨?_, hi⟩
    simp [List.getD, e] at h ⊢
    exact h.symm
variable {P : Program} {w : World} {K : PySem.W.Frag} {mg : Str → Option Value} {base : Heap} {Z : Ad}
/-! ### _play_round -/
def sp_play (K : PySem.W.Frag) (Z : Ad) : Sp := fun vs H Q _ => ∃ (c : Addr) (bs ds ks : List Int) (tb td tk : Addr) (s : Int), vs = [.ref c, .int s] ∧ PR K Z H c bs ds ks tb td tk ∧ RetL ((stkL bs ds ks s).map V.int) H Q
theorem ok_Course__play_round (T : Txt K mg Z) : FnOk P w K mg base CX0 1 Z.f_Course__play_round Z.d_Course__play_round p_Course__play_round (sp_play K Z) := by
  refine T.F_Course__play_round.ok sc_Course__play_round (fun vs H Q E h => ?_) (fun cdv Ar outer s H vs Q E hr h => ?_)
  · obtain ⟨c, bs, ds, ks, tb, td, tk, s, rfl, _⟩ := h
    rfl
  · obtain ⟨c, bs, ds, ks, tb, td, tk, s, rfl, hP, k⟩ := h
    have fb := hP.fb
    have fd := hP.fd
    have fk := hP.fk
    have hn := hP.gd.n1
    refine ⟨_, (pss_cons (ps_set (i := 2) sc_Course__play_round.nd rfl (Or.inl rfl) (pe_lst (pa_cons (pv 1) pa_nil)))
      (pss_cons (ps_for PassesOwn.never rfl (pi_zip3 (by rfl) T.b_zip (pa_cons (pe_fldK K rfl (pv 0) rfl) (pa_cons (pe_fldK K rfl (pv 0) rfl) (pa_cons (pe_fldK K rfl (pv 0) rfl) pa_nil)))) (by exact (pg_tupK K (n := 3) rfl rfl (pgs_cons (pg_name (i := 3) sc_Course__play_round.nd rfl (Or.inl rfl)) (pgs_cons (pg_name (i := 4) sc_Course__play_round.nd rfl (Or.inl rfl)) (pgs_cons (pg_name (i := 5) sc_Course__play_round.nd rfl (Or.inl rfl)) pgs_nil))))) (pss_cons (ps_set (i := 6) sc_Course__play_round.nd rfl (Or.inl rfl) (pe_callB (r := rMax2) (call_max2 rfl) (by rfl) T.b_max boot_max (pa_cons pe_int (pa_cons (pe_op op_sub (pe_op op_add (pe_ix (r := rIxL K) ix_list (pv 2) (pe_un un_neg pe_int) (fun _ _ => rfl)) (pv 3)) (pv 4)) pa_nil))))
      (pss_one (ps_expr (pe_bm PySem.F.plainAttrs_list PySem.F.slot_list_append PySem.F.type_list_append mt_append (pv 2) (pa_cons (pe_callB (r := rMn) (call_min2 rfl) (by rfl) T.b_min boot_min (pa_cons (pv 6) (pa_cons (pv 5) pa_nil))) pa_nil))))))
      (pss_one (ps_ret (pv 2))))), ?_⟩
    refine q_asgL (xs := [.int s]) (el_lst (ea_cons (ev_var rfl) ea_nil) (by show 1 ≤ 100000; decide)) fun p H1 hp e1 h1 => ?_
    refine q_forZ3 (n := bs.length) (G := H) (ea_cons (Ev.mono e1 (by walk_at "ev")) (ea_cons (Ev.mono e1 (by walk_at "ev")) (ea_cons (Ev.mono e1 (by walk_at "ev")) ea_nil))) e1 hP.hb hP.hd hP.hk (by simp) (by simp [hP.gd.ld]) (by simp [hP.kl])
      (fun i σ' H' => (∃ a b c' d, σ' = [some (.ref c), some (.int s), some (.ref p), a, b, c', d]) ∧ Ex H H' ∧ H' p = some (.lst (((List.range (i + 1)).map (stkAt bs ds ks s)).map V.int))) ?_ ?_ ?_ ?_
    · intro H2 e2
      exact ⟨⟨_, _, _, _, rfl⟩, e1.trans e2, e2 p _ h1⟩
    · intro i σ' H' _ p
      exact p.2.1
    · rintro i x y z σ' H' hx hy hz ⟨⟨_, _, _, _, rfl⟩, e2, h2⟩ H3 e3
      obtain ⟨rfl, hi⟩ := at_map hx
      obtain ⟨rfl, _⟩ := at_map hy
      obtain ⟨rfl, _⟩ := at_map hz
      have h3 := e3 p _ h2
      have hlast : ((List.range (i + 1)).map (stkAt bs ds ks s)).map V.int = ((List.range i).map (stkAt bs ds ks s)).map V.int ++ [V.int (stkAt bs ds ks s i)] := by
        rw [List.range_succ, List.map_append, List.map_append]; rfl
      refine q_asg (ev_maxi ev_c (ev_op (ev_op (ev_ixL (v := .int (stkAt bs ds ks s i)) (ev_var rfl) (sq_of h3) (by walk_at "ev") (by rw [hlast]; exact atI_last)) (ev_var rfl) rv_I0) (ev_var rfl) rv_I0)) fun H4 e4 => ?_
      refine s_app (e4 p _ h3) (ev_var rfl) (by walk_at "ev") (by simp; omega) fun H5 e5 => ?_
      refine ⟨⟨_, _, _, _, rfl⟩, Ex.mut (((e2.trans e3).trans e4).trans e5) hp, ?_⟩
      rw [upd_same, List.range_succ (n := i + 1), List.map_append, List.map_append]
      rfl
    · rintro σ' H' ⟨⟨_, _, _, _, rfl⟩, e2, h2⟩
      exact s_ret (ev_var rfl) fun H3 e3 => k p H3 hp (e2.trans e3) (e3 p _ h2)
end Sw
namespace Sw
open PySem PySem.Spec PyProof.Rows L2 Evl
local macro_rules | `(tactic| walk_at "ev") => `(tactic| first
  | exact ev_c
  | exact ev_var rfl
  | ((with_reducible show Ev (tCB rMax2 _) _ _ _); exact ev_maxi (by walk_at "ev") (by walk_at "ev"))
  | ((with_reducible show Ev (tCB rMn _) _ _ _); exact ev_min2 (by walk_at "ev") (by walk_at "ev"))
  | ((with_reducible show Ev (tUn _ _) _ _ _); exact ev_un (by walk_at "ev") ru_neg)
  | ((with_reducible show Ev (tFld _ _ _) _ _ _); exact ev_fldK (by walk_at "ev") (by assumption))
  | ((with_reducible show Ev (tOp (rI0 _) _ _) _ _ _); exact ev_op (by walk_at "ev") (by walk_at "ev") rv_I0)
  | ((with_reducible show Ev (tOp rEq _ _) _ _ _); exact ev_op (by walk_at "ev") (by walk_at "ev") (rv_eq rfl))
  | ((with_reducible show Ev (tOp rNe _ _) _ _ _); exact ev_op (by walk_at "ev") (by walk_at "ev") (rv_ne rfl)))

/-- a promise's uses -/
theorem spl_play {K : PySem.W.Frag} {Z : Ad} {H : Hp} {c : Addr} {bs ds ks : List Int} {tb td tk : Addr} {s : Int} (h : PR K Z H c bs ds ks tb td tk) : SpL (sp_play K Z) [.ref c, .int s] H ((stkL bs ds ks s).map V.int) :=
  fun _ e _ q _ => ⟨c, bs, ds, ks, tb, td, tk, s, rfl, h.mono e, q⟩
def sp_stocks (K : PySem.W.Frag) (Z : Ad) : Sp := fun vs H Q _ => ∃ (c : Addr) (bs ds ks : List Int) (tb td tk : Addr) (gain first full r : Int), vs = [.ref c, .int r] ∧ SR K Z H c bs ds ks tb td tk gain first full ∧ RetL ((stkL bs ds ks (start1 gain first full r)).map V.int) H Q
theorem spl_stocks {K : PySem.W.Frag} {Z : Ad} {H : Hp} {c : Addr} {bs ds ks : List Int} {tb td tk : Addr} {gain first full r : Int} (h : SR K Z H c bs ds ks tb td tk gain first full) :
    SpL (sp_stocks K Z) [.ref c, .int r] H ((stkL bs ds ks (start1 gain first full r)).map V.int) :=
  fun _ e _ q _ => ⟨c, bs, ds, ks, tb, td, tk, gain, first, full, r, rfl, h.mono e, q⟩
variable {P : Program} {w : World} {K : PySem.W.Frag} {mg : Str → Option Value} {base : Heap} {Z : Ad}
theorem ok_Course__stocks_in (T : Txt K mg Z) : FnOk P w K mg base CX0 2 Z.f_Course__stocks_in Z.d_Course__stocks_in p_Course__stocks_in (sp_stocks K Z) := by
  refine T.F_Course__stocks_in.ok sc_Course__stocks_in (fun vs H Q E h => ?_) (fun cdv Ar outer s H vs Q E hr h => ?_)
  · obtain ⟨c, bs, ds, ks, tb, td, tk, gain, first, full, r, rfl, _⟩ := h
    rfl
  · obtain ⟨c, bs, ds, ks, tb, td, tk, gain, first, full, r, rfl, hS, k⟩ := h
    have hP := hS.pr
    refine ⟨_, (pss_cons (ps_if (pt_cmpR op_eq (pv 1) pe_int (nomark _)) (pss_one (ps_ret (pe_meth (pv 0) T.cl_Course T.m_Course__play_round (ok_Course__play_round T) (hr.mono (by decide)) T.b_Course__play_round .nil pass0 (pa_cons pe_int pa_nil)))) pss_nil)
      (pss_cons (ps_set (i := 2) sc_Course__stocks_in.nd rfl (Or.inl rfl) (pe_callB (r := rMn) (call_min2 rfl) (by rfl) T.b_min boot_min (pa_cons (pe_fldK K rfl (pv 0) rfl) (pa_cons (pe_op op_add (pe_fldK K rfl (pv 0) rfl) (pe_op op_mul (pe_op op_sub (pv 1) pe_int) (pe_fldK K rfl (pv 0) rfl))) pa_nil))))
      (pss_one (ps_ret (pe_meth (pv 0) T.cl_Course T.m_Course__play_round (ok_Course__play_round T) (hr.mono (by decide)) T.b_Course__play_round .nil pass0 (pa_cons (pv 2) pa_nil)))))), ?_⟩
    refine q_when (et_test (by walk_at "ev")) (fun hb H1 e1 => ?_) (fun hb H1 e1 => ?_)
    · have hr0 : r = 0 := by simpa using hb
      refine s_retL (el_meth (ev_var rfl) (hP.nf.mono e1) (ea_cons ev_c ea_nil) (spl_play (s := 0) (hP.mono e1))) fun p H2 hp e2 h2 => ?_
      refine k p H2 (fresh_back e1 hp) (e1.trans e2) ?_
      rw [h2]
      unfold start1
      rw [if_pos hr0]
    · have hr0 : ¬ r = 0 := by simpa using hb
      have fg := hS.fg.mono e1
      have ff := hS.ff.mono e1
      have fu := hS.fu.mono e1
      refine q_asg (ev_min2 (by walk_at "ev") (ev_op (by walk_at "ev") (ev_op (by walk_at "ev") (by walk_at "ev") (rv_I (wide_ok hS.gb))) rv_I0)) fun H2 e2 => ?_
      refine s_retL (el_meth (ev_var rfl) (hP.nf.mono (e1.trans e2)) (ea_cons (ev_var rfl) ea_nil) (spl_play (hP.mono (e1.trans e2)))) fun p H3 hp e3 h3 => ?_
      refine k p H3 (fresh_back (e1.trans e2) hp) ((e1.trans e2).trans e3) ?_
      rw [h3]
      unfold start1
      rw [if_neg hr0]
/-- what a course tells -/
def stockI (bs ds ks : List Int) (gain first full day : Int) : Int := stkAt bs ds ks (start1 gain first full (day / (bs.length : Int))) (day % (bs.length : Int)).toNat
structure SM (K : PySem.W.Frag) (Z : Ad) (H : Hp) (c : Addr) (bs ds ks : List Int) (tb td tk : Addr) (gain first full : Int) : Prop where
  sr : SR K Z H c bs ds ks tb td tk gain first full
  nm : NoF H c Z.c_Course "_misses_in"
theorem SM.mono {K : PySem.W.Frag} {Z : Ad} {H H' : Hp} {c : Addr} {bs ds ks : List Int} {tb td tk : Addr} {gain first full : Int} (e : Ex H H') (h : SM K Z H c bs ds ks tb td tk gain first full) : SM K Z H' c bs ds ks tb td tk gain first full := ⟨h.sr.mono e, h.nm.mono e⟩
def sp_misses (K : PySem.W.Frag) (Z : Ad) : Sp := fun vs H Q _ => ∃ (c : Addr) (bs ds ks : List Int) (tb td tk : Addr) (gain first full r : Int), vs = [.ref c, .int r] ∧ SR K Z H c bs ds ks tb td tk gain first full ∧ RetL ((missL ds bs (stkL bs ds ks (start1 gain first full r))).map V.int) H Q
theorem spl_misses {K : PySem.W.Frag} {Z : Ad} {H : Hp} {c : Addr} {bs ds ks : List Int} {tb td tk : Addr} {gain first full r : Int} (h : SR K Z H c bs ds ks tb td tk gain first full) :
    SpL (sp_misses K Z) [.ref c, .int r] H ((missL ds bs (stkL bs ds ks (start1 gain first full r))).map V.int) :=
  fun _ e _ q _ => ⟨c, bs, ds, ks, tb, td, tk, gain, first, full, r, rfl, h.mono e, q⟩
theorem ok_Course__misses_in (T : Txt K mg Z) : FnOk P w K mg base CX0 3 Z.f_Course__misses_in Z.d_Course__misses_in p_Course__misses_in (sp_misses K Z) := by
  refine T.F_Course__misses_in.ok sc_Course__misses_in (fun vs H Q E h => ?_) (fun cdv Ar outer s H vs Q E hr h => ?_)
  · obtain ⟨c, bs, ds, ks, tb, td, tk, gain, first, full, r, rfl, _⟩ := h
    rfl
  · obtain ⟨c, bs, ds, ks, tb, td, tk, gain, first, full, r, rfl, hS, k⟩ := h
    have hP := hS.pr
    have hn := hP.gd.n1
    have hl := hP.gd.ld
    refine ⟨_, (pss_cons (ps_set (i := 2) sc_Course__misses_in.nd rfl (Or.inr rfl) (pe_meth (pv 0) T.cl_Course T.m_Course__stocks_in (ok_Course__stocks_in T) (hr.mono (by decide)) T.b_Course__stocks_in .nil pass0 (pa_cons (pv 1) pa_nil)))
      (pss_one (ps_ret (pe_lc (own := [("at", 3), ("demand", 4)]) rfl sc_Course__misses_in.nd (pi_enumTK K rfl (by rfl) T.b_enumerate (pa_cons (pe_fldK K rfl (pv 0) rfl) pa_nil)) (blkOk_by (own := [("at", 3), ("demand", 4)]) (N := n_Course__misses_in) (sc := defScope s_Course__misses_in) (scope := { kind := PySem.ScopeKind.function, names := [ (PySem.Str.ofString ".0", PySem.NameKind.local), (PySem.Str.ofString "at", PySem.NameKind.local), (PySem.Str.ofString "demand", PySem.NameKind.local), (PySem.Str.ofString "max", PySem.NameKind.globalImplicit), (PySem.Str.ofString "self", PySem.NameKind.free), (PySem.Str.ofString "stocks", PySem.NameKind.free)], isGenerator := false, isCoroutine := false, more := [] : PySem.Scope }) (by decide +kernel)) (fun _ _ _ _ _ => (by exact (pg_tupK K (n := 2) rfl rfl (pgs_cons (pg_name (i := 3) sc_Course__misses_in.nd rfl (Or.inl rfl)) (pgs_cons (pg_name (i := 4) sc_Course__misses_in.nd rfl (Or.inl rfl)) pgs_nil))))) (fun _ _ _ _ _ => pts_nil) (fun _ _ _ _ _ => (pe_callB (r := rMax2) (call_max2 rfl) (by rfl) T.b_max boot_max (pa_cons pe_int (pa_cons (pe_op op_sub (pe_op op_sub (pv 4) (pe_ix (r := rIxL K) ix_list (pv 2) (pv 3) (fun _ _ => rfl))) (pe_ix (r := rIxT K) ix_tup (pe_fldK K rfl (pv 0) rfl) (pv 3) (fun _ _ => rfl))) pa_nil)))))))), ?_⟩
    refine q_asgL (el_meth (ev_var rfl) hS.nf (ea_cons (ev_var rfl) ea_nil) (spl_stocks hS)) fun p H1 hp e1 h1 => ?_
    have hP1 := hP.mono e1
    have fb := hP1.fb
    have fd := hP1.fd
    refine s_retL (xs := (missL ds bs (stkL bs ds ks (start1 gain first full r))).map V.int) ?_ fun q H2 hq e2 h2 => k q H2 (fresh_back e1 hq) (e1.trans e2) h2
    unfold missL
    rw [← rng_map]
    have hdl : (ds.map V.int).length = ds.length := by rw [List.length_map]
    rw [← hdl]
    refine el_lcEnT _ (ea_cons (by walk_at "ev") ea_nil) hP1.hd (by rw [hdl]; omega) (fun _ _ => rfl) fun i x H3 e3 hx => ?_
    obtain ⟨rfl, hi⟩ := at_map hx
    have fb3 := fb.mono e3
    refine ev_maxi ev_c (ev_op (ev_op (ev_var rfl) (ev_ixL (ev_var rfl) (sq_of (e3 p _ h1)) (ev_var rfl) (atI_mapI (i := (i : Int)) (by omega) (by rw [stkL_len]; omega))) rv_I0) (ev_ixT (by walk_at "ev") (ex_t e3 hP1.hb) (ev_var rfl) (atI_mapI (i := (i : Int)) (by omega) (by omega))) rv_I0)
def sp_growing (K : PySem.W.Frag) (Z : Ad) : Sp := fun vs H Q _ => ∃ (c : Addr) (bs ds ks : List Int) (tb td tk : Addr) (gain first full : Int), vs = [.ref c] ∧ SR K Z H c bs ds ks tb td tk gain first full ∧ 0 ≤ gain ∧ RetV (.int (growing gain first full)) H Q
theorem ok_Course__count_growing (T : Txt K mg Z) : FnOk P w K mg base CX0 1 Z.f_Course__count_growing Z.d_Course__count_growing p_Course__count_growing (sp_growing K Z) := by
  refine T.F_Course__count_growing.ok sc_Course__count_growing (fun vs H Q E h => ?_) (fun cdv Ar outer s H vs Q E hr h => ?_)
  · obtain ⟨c, bs, ds, ks, tb, td, tk, gain, first, full, rfl, _⟩ := h
    rfl
  · obtain ⟨c, bs, ds, ks, tb, td, tk, gain, first, full, rfl, hS, hg, k⟩ := h
    have fg := hS.fg
    refine ⟨_, (pss_cons (ps_if (pt_cmpR op_eq (pe_fldK K rfl (pv 0) rfl) pe_int (nomark _)) (pss_one (ps_ret pe_int)) pss_nil)
      (pss_one (ps_ret (pe_un un_neg (pe_op op_fdivW (pe_op op_sub (pe_fldK K rfl (pv 0) rfl) (pe_fldK K rfl (pv 0) rfl)) (pe_fldK K rfl (pv 0) rfl)))))), ?_⟩
    refine q_when (et_test (by walk_at "ev")) (fun hb H1 e1 => ?_) (fun hb H1 e1 => ?_)
    · have hr0 : gain = 0 := by simpa using hb
      refine s_ret ev_c fun H2 e2 => ?_
      have z := k H2 (e1.trans e2)
      unfold growing at z
      rw [if_pos hr0] at z
      exact z
    · have hr0 : ¬ gain = 0 := by simpa using hb
      have fg := hS.fg.mono e1
      have ff := hS.ff.mono e1
      have fu := hS.fu.mono e1
      refine s_ret (ev_un (ev_op (by walk_at "ev") (by walk_at "ev") (rv_I (wide_div (by omega) hS.gb (by decide) (by decide)))) ru_neg) fun H2 e2 => ?_
      have z := k H2 (e1.trans e2)
      unfold growing at z
      rw [if_neg hr0] at z
      exact z
def sp_stock_at (K : PySem.W.Frag) (Z : Ad) : Sp := fun vs H Q _ => ∃ (c : Addr) (bs ds ks : List Int) (tb td tk : Addr) (gain first full day : Int), vs = [.ref c, .int day] ∧ SR K Z H c bs ds ks tb td tk gain first full ∧ RetV (.int (stockI bs ds ks gain first full day)) H Q
theorem spv_stock_at {K : PySem.W.Frag} {Z : Ad} {H : Hp} {c : Addr} {bs ds ks : List Int} {tb td tk : Addr} {gain first full day : Int} (h : SR K Z H c bs ds ks tb td tk gain first full) :
    SpV (sp_stock_at K Z) [.ref c, .int day] H (.int (stockI bs ds ks gain first full day)) :=
  fun _ e _ q _ => ⟨c, bs, ds, ks, tb, td, tk, gain, first, full, day, rfl, h.mono e, q⟩
theorem getD_map {ns : List Int} {i : Nat} : (ns.map V.int).getD i (V.int 0) = V.int (ns.getD i 0) := by
  simp [List.getD]
theorem ok_Course_stock_at (T : Txt K mg Z) : FnOk P w K mg base CX0 3 Z.f_Course_stock_at Z.d_Course_stock_at p_Course_stock_at (sp_stock_at K Z) := by
  refine T.F_Course_stock_at.ok sc_Course_stock_at (fun vs H Q E h => ?_) (fun cdv Ar outer s H vs Q E hr h => ?_)
  · obtain ⟨c, bs, ds, ks, tb, td, tk, gain, first, full, day, rfl, _⟩ := h
    rfl
  · obtain ⟨c, bs, ds, ks, tb, td, tk, gain, first, full, day, rfl, hS, k⟩ := h
    have hP := hS.pr
    have fb := hP.fb
    have h0 := hP.gd.n0
    have h1 := hP.gd.n1
    have hl : ((bs.map V.int).length : Int) = (bs.length : Int) := by rw [List.length_map]
    have hr0 : 0 ≤ day % (bs.length : Int) := Int.emod_nonneg _ (by omega)
    have hr1 : day % (bs.length : Int) < (bs.length : Int) := Int.emod_lt_of_pos _ (by omega)
    refine ⟨_, (pss_cons (ps_asg (pe_callB (r := rDm) (call_divmod) (by rfl) T.b_divmod boot_divmod (pa_cons (pv 1) (pa_cons (pe_callB (r := rLenS K) (call_len_seq) (by rfl) T.b_len boot_len (pa_cons (pe_fldK K rfl (pv 0) rfl) pa_nil)) pa_nil))) (by exact (pg_tupK K (n := 2) rfl rfl (pgs_cons (pg_name (i := 2) sc_Course_stock_at.nd rfl (Or.inl rfl)) (pgs_cons (pg_name (i := 3) sc_Course_stock_at.nd rfl (Or.inl rfl)) pgs_nil)))))
      (pss_one (ps_ret (pe_ix (r := rIxL K) ix_list (pe_meth (pv 0) T.cl_Course T.m_Course__stocks_in (ok_Course__stocks_in T) (hr.mono (by decide)) T.b_Course__stocks_in .nil pass0 (pa_cons (pv 2) pa_nil)) (pv 3) (fun _ _ => rfl))))), ?_⟩
    refine q_pair (eu_dm (ev_var rfl) (Ev.int_eq (ev_lenT (by walk_at "ev") hP.hb) hl) ⟨by omega, by omega⟩) fun H1 e1 => ?_
    refine s_ret (ev_ixNL (el_meth (ev_var rfl) (hS.nf.mono e1) (ea_cons (ev_var rfl) ea_nil) (spl_stocks (hS.mono e1))) (ev_var rfl) (atI_mapI hr0 (by rw [stkL_len]; omega))) fun H2 e2 => ?_
    have z := k H2 (e1.trans e2)
    rw [stkL_get (by omega)]
    exact z
/-- a day's sales: sold, missed, thrown -/
def soldI (bs ds ks : List Int) (gain first full day : Int) : Int := min (stockI bs ds ks gain first full day + bs.getD (day % (bs.length : Int)).toNat 0) (ds.getD (day % (bs.length : Int)).toNat 0)
def endI (bs ds ks : List Int) (gain first full day : Int) : Int := stkAt bs ds ks (start1 gain first full (day / (bs.length : Int))) ((day % (bs.length : Int)).toNat + 1)
def salesI (bs ds ks : List Int) (gain first full day : Int) : List Int :=
  [soldI bs ds ks gain first full day, ds.getD (day % (bs.length : Int)).toNat 0 - soldI bs ds ks gain first full day,
   stockI bs ds ks gain first full day + bs.getD (day % (bs.length : Int)).toNat 0 - soldI bs ds ks gain first full day - endI bs ds ks gain first full day]
def sp_sales_on (K : PySem.W.Frag) (Z : Ad) : Sp := fun vs H Q _ => ∃ (c : Addr) (bs ds ks : List Int) (tb td tk : Addr) (gain first full day : Int), vs = [.ref c, .int day] ∧ SR K Z H c bs ds ks tb td tk gain first full ∧ RetU ((salesI bs ds ks gain first full day).map V.int) H Q
theorem spu_sales_on {K : PySem.W.Frag} {Z : Ad} {H : Hp} {c : Addr} {bs ds ks : List Int} {tb td tk : Addr} {gain first full day : Int} (h : SR K Z H c bs ds ks tb td tk gain first full) :
    SpU (sp_sales_on K Z) [.ref c, .int day] H ((salesI bs ds ks gain first full day).map V.int) :=
  fun _ e _ q _ => ⟨c, bs, ds, ks, tb, td, tk, gain, first, full, day, rfl, h.mono e, q⟩
theorem ok_Course_sales_on (T : Txt K mg Z) : FnOk P w K mg base CX0 3 Z.f_Course_sales_on Z.d_Course_sales_on p_Course_sales_on (sp_sales_on K Z) := by
  refine T.F_Course_sales_on.ok sc_Course_sales_on (fun vs H Q E h => ?_) (fun cdv Ar outer s H vs Q E hr h => ?_)
  · obtain ⟨c, bs, ds, ks, tb, td, tk, gain, first, full, day, rfl, _⟩ := h
    rfl
  · obtain ⟨c, bs, ds, ks, tb, td, tk, gain, first, full, day, rfl, hS, k⟩ := h
    have hP := hS.pr
    have fb := hP.fb
    have h0 := hP.gd.n0
    have h1 := hP.gd.n1
    have hld := hP.gd.ld
    have hl : ((bs.map V.int).length : Int) = (bs.length : Int) := by rw [List.length_map]
    have hr0 : 0 ≤ day % (bs.length : Int) := Int.emod_nonneg _ (by omega)
    have hr1 : day % (bs.length : Int) < (bs.length : Int) := Int.emod_lt_of_pos _ (by omega)
    refine ⟨_, (pss_cons (ps_asg (pe_callB (r := rDm) (call_divmod) (by rfl) T.b_divmod boot_divmod (pa_cons (pv 1) (pa_cons (pe_callB (r := rLenS K) (call_len_seq) (by rfl) T.b_len boot_len (pa_cons (pe_fldK K rfl (pv 0) rfl) pa_nil)) pa_nil))) (by exact (pg_tupK K (n := 2) rfl rfl (pgs_cons (pg_name (i := 2) sc_Course_sales_on.nd rfl (Or.inl rfl)) (pgs_cons (pg_name (i := 3) sc_Course_sales_on.nd rfl (Or.inl rfl)) pgs_nil)))))
      (pss_cons (ps_set (i := 4) sc_Course_sales_on.nd rfl (Or.inl rfl) (pe_meth (pv 0) T.cl_Course T.m_Course__stocks_in (ok_Course__stocks_in T) (hr.mono (by decide)) T.b_Course__stocks_in .nil pass0 (pa_cons (pv 2) pa_nil)))
      (pss_cons (ps_set (i := 5) sc_Course_sales_on.nd rfl (Or.inl rfl) (pe_op op_add (pe_ix (r := rIxL K) ix_list (pv 4) (pv 3) (fun _ _ => rfl)) (pe_ix (r := rIxT K) ix_tup (pe_fldK K rfl (pv 0) rfl) (pv 3) (fun _ _ => rfl))))
      (pss_cons (ps_set (i := 6) sc_Course_sales_on.nd rfl (Or.inl rfl) (pe_callB (r := rMn) (call_min2 rfl) (by rfl) T.b_min boot_min (pa_cons (pv 5) (pa_cons (pe_ix (r := rIxT K) ix_tup (pe_fldK K rfl (pv 0) rfl) (pv 3) (fun _ _ => rfl)) pa_nil))))
      (pss_one (ps_ret (pe_tup (pa_cons (pv 6) (pa_cons (pe_op op_sub (pe_ix (r := rIxT K) ix_tup (pe_fldK K rfl (pv 0) rfl) (pv 3) (fun _ _ => rfl)) (pv 6)) (pa_cons (pe_op op_sub (pe_op op_sub (pv 5) (pv 6)) (pe_ix (r := rIxL K) ix_list (pv 4) (pe_op op_add (pv 3) pe_int) (fun _ _ => rfl))) pa_nil)))))))))), ?_⟩
    refine q_pair (eu_dm (ev_var rfl) (Ev.int_eq (ev_lenT (by walk_at "ev") hP.hb) hl) ⟨by omega, by omega⟩) fun H1 e1 => ?_
    refine q_asgL (el_meth (ev_var rfl) (hS.nf.mono e1) (ea_cons (ev_var rfl) ea_nil) (spl_stocks (hS.mono e1))) fun p H2 hp e2 h2 => ?_
    have hP2 := hP.mono (e1.trans e2)
    have fb := hP2.fb
    have fd := hP2.fd
    refine q_asg (ev_op (ev_ixL (ev_var rfl) (sq_of h2) (ev_var rfl) (atI_mapI hr0 (by rw [stkL_len]; omega))) (ev_ixT (by walk_at "ev") hP2.hb (ev_var rfl) (atI_mapI hr0 hr1)) rv_I0) fun H3 e3 => ?_
    have fd3 := fd.mono e3
    refine q_asg (ev_min2 (ev_var rfl) (ev_ixT (by walk_at "ev") (ex_t e3 hP2.hd) (ev_var rfl) (atI_mapI hr0 (by omega)))) fun H4 e4 => ?_
    have fd4 := fd3.mono e4
    have ht : (day % (bs.length : Int) + 1).toNat = (day % (bs.length : Int)).toNat + 1 := by omega
    refine s_retU (eu_tup (ea_cons (ev_var rfl) (ea_cons (ev_op (ev_ixT (by walk_at "ev") (ex_t (e3.trans e4) hP2.hd) (ev_var rfl) (atI_mapI hr0 (by omega))) (ev_var rfl) rv_I0) (ea_cons (ev_op (ev_op (ev_var rfl) (ev_var rfl) rv_I0) (ev_ixL (ev_var rfl) (sq_of (e4 p _ (e3 p _ h2))) (by walk_at "ev") (atI_mapI (by omega) (by rw [stkL_len]; omega))) rv_I0) ea_nil))) (by show 3 ≤ 100000; decide)) fun q H5 hq e5 h5 => ?_
    refine k q H5 (fresh_back ((e1.trans e2).trans (e3.trans e4)) hq) (((e1.trans e2).trans (e3.trans e4)).trans e5) ?_
    rw [h5, ht, stkL_get (by omega), stkL_get (by omega)]
    rfl
end Sw
namespace Sw
open PySem PySem.Spec PyProof.Rows L2 Evl
local macro_rules | `(tactic| walk_at "ev") => `(tactic| first
  | exact ev_c
  | exact ev_var rfl
  | ((with_reducible show Ev (tCB rMax2 _) _ _ _); exact ev_maxi (by walk_at "ev") (by walk_at "ev"))
  | ((with_reducible show Ev (tCB rMn _) _ _ _); exact ev_min2 (by walk_at "ev") (by walk_at "ev"))
  | ((with_reducible show Ev (tUn _ _) _ _ _); exact ev_un (by walk_at "ev") ru_neg)
  | ((with_reducible show Ev (tFld _ _ _) _ _ _); exact ev_fldK (by walk_at "ev") (by assumption))
  | ((with_reducible show Ev (tOp (rI0 _) _ _) _ _ _); exact ev_op (by walk_at "ev") (by walk_at "ev") rv_I0)
  | ((with_reducible show Ev (tOp rEq _ _) _ _ _); exact ev_op (by walk_at "ev") (by walk_at "ev") (rv_eq rfl))
  | ((with_reducible show Ev (tOp rNe _ _) _ _ _); exact ev_op (by walk_at "ev") (by walk_at "ev") (rv_ne rfl)))

/-! ### find_settled, sum_settled_round, sales_before -/
structure FS (K : PySem.W.Frag) (Z : Ad) (H : Hp) (c : Addr) (bs ds ks : List Int) (tb td tk : Addr) (gain first full : Int) : Prop where
  sr : SR K Z H c bs ds ks tb td tk gain first full
  ng : NoF H c Z.c_Course "_count_growing"
theorem FS.mono {K : PySem.W.Frag} {Z : Ad} {H H' : Hp} {c : Addr} {bs ds ks : List Int} {tb td tk : Addr} {gain first full : Int} (e : Ex H H') (h : FS K Z H c bs ds ks tb td tk gain first full) : FS K Z H' c bs ds ks tb td tk gain first full := ⟨h.sr.mono e, h.ng.mono e⟩
/-- the first day of the round behind the growing ones that is as a round later -/
def SetAt (bs ds ks : List Int) (gain first full : Int) (i : Nat) : Prop := i ≤ bs.length ∧
  stkAt bs ds ks (start1 gain first full (growing gain first full)) i = stkAt bs ds ks (start1 gain first full (growing gain first full + 1)) i ∧
  ∀ j, j < i → stkAt bs ds ks (start1 gain first full (growing gain first full)) j ≠ stkAt bs ds ks (start1 gain first full (growing gain first full + 1)) j
def sp_settled (K : PySem.W.Frag) (Z : Ad) : Sp := fun vs H Q _ => ∃ (c : Addr) (bs ds ks : List Int) (tb td tk : Addr) (gain first full : Int) (i : Nat), vs = [.ref c] ∧ FS K Z H c bs ds ks tb td tk gain first full ∧ 0 ≤ gain ∧ SetAt bs ds ks gain first full i ∧
  RetV (.int (growing gain first full * (bs.length : Int) + (i : Int))) H Q
theorem spv_growing {K : PySem.W.Frag} {Z : Ad} {H : Hp} {c : Addr} {bs ds ks : List Int} {tb td tk : Addr} {gain first full : Int} (h : SR K Z H c bs ds ks tb td tk gain first full) (hg : 0 ≤ gain) :
    SpV (sp_growing K Z) [.ref c] H (.int (growing gain first full)) := fun _ e _ q _ => ⟨c, bs, ds, ks, tb, td, tk, gain, first, full, rfl, h.mono e, hg, q⟩
variable {P : Program} {w : World} {K : PySem.W.Frag} {mg : Str → Option Value} {base : Heap} {Z : Ad}
theorem ok_Course_find_settled (T : Txt K mg Z) : FnOk P w K mg base CX0 3 Z.f_Course_find_settled Z.d_Course_find_settled p_Course_find_settled (sp_settled K Z) := by
  refine T.F_Course_find_settled.ok sc_Course_find_settled (fun vs H Q E h => ?_) (fun cdv Ar outer s H vs Q E hr h => ?_)
  · obtain ⟨c, bs, ds, ks, tb, td, tk, gain, first, full, i, rfl, _⟩ := h
    rfl
  · obtain ⟨c, bs, ds, ks, tb, td, tk, gain, first, full, i, rfl, hF, hg, hi, k⟩ := h
    have hS := hF.sr
    have hP := hS.pr
    have hn := hP.gd.n1
    refine ⟨_, (pss_cons (ps_set (i := 1) sc_Course_find_settled.nd rfl (Or.inl rfl) (pe_meth0 (pv 0) T.cl_Course T.m_Course__count_growing (ok_Course__count_growing T) (hr.mono (by decide)) T.b_Course__count_growing .nil pass0))
      (pss_cons (ps_set (i := 2) sc_Course_find_settled.nd rfl (Or.inl rfl) (pe_meth (pv 0) T.cl_Course T.m_Course__stocks_in (ok_Course__stocks_in T) (hr.mono (by decide)) T.b_Course__stocks_in .nil pass0 (pa_cons (pv 1) pa_nil)))
      (pss_cons (ps_set (i := 3) sc_Course_find_settled.nd rfl (Or.inl rfl) (pe_meth (pv 0) T.cl_Course T.m_Course__stocks_in (ok_Course__stocks_in T) (hr.mono (by decide)) T.b_Course__stocks_in .nil pass0 (pa_cons (pe_op op_add (pv 1) pe_int) pa_nil)))
      (pss_cons (ps_set (i := 4) sc_Course_find_settled.nd rfl (Or.inl rfl) pe_int)
      (pss_cons (ps_while PassesOwn.never (pt_cmpR op_ne (pe_ix (r := rIxL K) ix_list (pv 2) (pv 4) (fun _ _ => rfl)) (pe_ix (r := rIxL K) ix_list (pv 3) (pv 4) (fun _ _ => rfl)) (nomark _)) (pss_one (ps_aug (i := 4) sc_Course_find_settled.nd rfl (Or.inl rfl) pe_int in_add)))
      (pss_one (ps_ret (pe_op op_add (pe_op op_mul (pv 1) (pe_callB (r := rLenS K) (call_len_seq) (by rfl) T.b_len boot_len (pa_cons (pe_fldK K rfl (pv 0) rfl) pa_nil))) (pv 4))))))))), ?_⟩
    refine q_asg (ev_meth (ev_var rfl) hF.ng ea_nil (spv_growing hS hg)) fun H1 e1 => ?_
    refine q_asgL (el_meth (ev_var rfl) (hS.nf.mono e1) (ea_cons (ev_var rfl) ea_nil) (spl_stocks (hS.mono e1))) fun p H2 hp e2 h2 => ?_
    refine q_asgL (el_meth (ev_var rfl) (hS.nf.mono (e1.trans e2)) (ea_cons (by walk_at "ev") ea_nil) (spl_stocks (hS.mono (e1.trans e2)))) fun q H3 hq e3 h3 => ?_
    refine q_asg ev_c fun H4 e4 => ?_
    refine q_while (fun m σ' H' => ∃ j : Nat, m = i - j ∧ j ≤ i ∧ σ' = [some (.ref c), some (.int (growing gain first full)), some (.ref p), some (.ref q), some (.int (j : Int))] ∧ Ex H4 H') i ⟨0, rfl, Nat.zero_le _, rfl, Ex.refl _⟩ ?_
    rintro m σ' H' ⟨j, rfl, hj, rfl, e5⟩
    have hjn : j ≤ bs.length := Nat.le_trans hj hi.1
    refine ⟨!decide (stkAt bs ds ks (start1 gain first full (growing gain first full)) j = stkAt bs ds ks (start1 gain first full (growing gain first full + 1)) j), ?_, fun hb H5 e6 => ?_, fun hb H5 e6 => ?_⟩
    · refine et_test ?_
      refine ev_is (ev_op (ev_ixL (ev_var rfl) (sq_of (e5 _ _ (e4 _ _ (e3 _ _ h2)))) (ev_var rfl) (atI_mapI (i := (j : Int)) (by omega) (by rw [stkL_len]; omega)))
        (ev_ixL (ev_var rfl) (sq_of (e5 _ _ (e4 _ _ h3))) (ev_var rfl) (atI_mapI (i := (j : Int)) (by omega) (by rw [stkL_len]; omega))) (rv_ne rfl)) ?_
      rw [Int.toNat_natCast, stkL_get hjn, stkL_get hjn]
      simp
    · have hne : stkAt bs ds ks (start1 gain first full (growing gain first full)) j ≠ stkAt bs ds ks (start1 gain first full (growing gain first full + 1)) j := by simpa using hb
      have hlt : j < i := by
        rcases Nat.lt_or_ge j i with z | z
        · exact z
        · have : j = i := by omega
          subst this
          exact absurd hi.2.1 hne
      refine ⟨fun σ2 H2 => ∃ m', m' < i - j ∧ ∃ j' : Nat, m' = i - j' ∧ j' ≤ i ∧ σ2 = [some (.ref c), some (.int (growing gain first full)), some (.ref p), some (.ref q), some (.int (j' : Int))] ∧ Ex H4 H2, fun σ2 H2 h => h, ?_⟩
      refine s_aug (a := (j : Int)) (b := 1) rfl ev_c fun H6 e7 => ?_
      exact ⟨i - (j + 1), by omega, j + 1, rfl, hlt, rfl, (e5.trans e6).trans e7⟩
    · have heq : stkAt bs ds ks (start1 gain first full (growing gain first full)) j = stkAt bs ds ks (start1 gain first full (growing gain first full + 1)) j := by simpa using hb
      have hji : j = i := by
        rcases Nat.lt_or_ge j i with z | z
        · exact absurd heq (hi.2.2 j z)
        · omega
      subst hji
      have eA : Ex H H5 := ((((e1.trans e2).trans e3).trans e4).trans e5).trans e6
      have fb := hP.fb.mono eA
      have hl : ((bs.map V.int).length : Int) = (bs.length : Int) := by rw [List.length_map]
      refine s_ret (ev_op (ev_op (ev_var rfl) (Ev.int_eq (ev_lenT (by walk_at "ev") (ex_t eA hP.hb)) hl) (rv_I (wide_ok (by omega)))) (ev_var rfl) rv_I0) fun H6 e7 => k H6 (eA.trans e7)
/-- the whole course -/
structure CO (K : PySem.W.Frag) (Z : Ad) (H : Hp) (c : Addr) (bs ds ks : List Int) (gain first full : Int) (fm lm : List Int) : Prop where
  sr : ∃ tb td tk, SR K Z H c bs ds ks tb td tk gain first full
  ffm : ∃ tf, FlK K H c Z.c_Course "_first_misses" (.ref tf) ∧ SqL K H tf (fm.map V.int)
  flm : ∃ tl, FlK K H c Z.c_Course "_later_misses" (.ref tl) ∧ SqL K H tl (lm.map V.int)
  lfm : fm.length = bs.length
  llm : lm.length = bs.length
  slm : lm.sum.natAbs ≤ 2 ^ 40
  sb : bs.sum.natAbs ≤ 2 ^ 40
  sd : ds.sum.natAbs ≤ 2 ^ 40
  nf : ∀ m : Str, m ∈ (["stock_at", "sales_on", "sales_before", "find_settled", "sum_settled_round", "loaves_at", "_misses_in", "_count_growing"] : List Str) → NoF H c Z.c_Course m
theorem CO.mono {K : PySem.W.Frag} {Z : Ad} {H H' : Hp} {c : Addr} {bs ds ks : List Int} {gain first full : Int} {fm lm : List Int} (e : Ex H H') (h : CO K Z H c bs ds ks gain first full fm lm) : CO K Z H' c bs ds ks gain first full fm lm :=
  ⟨let ⟨a, b, c, x⟩ := h.sr; ⟨a, b, c, x.mono e⟩, let ⟨a, x, y⟩ := h.ffm; ⟨a, x.mono e, ex_l e y⟩, let ⟨a, x, y⟩ := h.flm; ⟨a, x.mono e, ex_l e y⟩, h.lfm, h.llm, h.slm, h.sb, h.sd, fun m hm => (h.nf m hm).mono e⟩
def longI (bs ds lm : List Int) : List Int := [ds.sum - lm.sum, lm.sum, bs.sum - (ds.sum - lm.sum)]
def sp_sumround (K : PySem.W.Frag) (Z : Ad) : Sp := fun vs H Q _ => ∃ (c : Addr) (bs ds ks : List Int) (gain first full : Int) (fm lm : List Int), vs = [.ref c] ∧ CO K Z H c bs ds ks gain first full fm lm ∧ RetU ((longI bs ds lm).map V.int) H Q
theorem ok_Course_sum_settled_round (T : Txt K mg Z) : FnOk P w K mg base CX0 1 Z.f_Course_sum_settled_round Z.d_Course_sum_settled_round p_Course_sum_settled_round (sp_sumround K Z) := by
  refine T.F_Course_sum_settled_round.ok sc_Course_sum_settled_round (fun vs H Q E h => ?_) (fun cdv Ar outer s H vs Q E hr h => ?_)
  · obtain ⟨c, bs, ds, ks, gain, first, full, fm, lm, rfl, _⟩ := h
    rfl
  · obtain ⟨c, bs, ds, ks, gain, first, full, fm, lm, rfl, hC, k⟩ := h
    obtain ⟨tb, td, tk, hS⟩ := hC.sr
    obtain ⟨tl, fl, hl⟩ := hC.flm
    have hP := hS.pr
    have fd := hP.fd
    refine ⟨_, (pss_cons (ps_set (i := 1) sc_Course_sum_settled_round.nd rfl (Or.inl rfl) (pe_callB (r := rSum K) (cr_sum rfl) (by rfl) T.b_sum boot_sum (pa_cons (pe_fldK K rfl (pv 0) rfl) pa_nil)))
      (pss_cons (ps_set (i := 2) sc_Course_sum_settled_round.nd rfl (Or.inl rfl) (pe_op op_sub (pe_callB (r := rSumT K) (cr_sumT rfl) (by rfl) T.b_sum boot_sum (pa_cons (pe_fldK K rfl (pv 0) rfl) pa_nil)) (pv 1)))
      (pss_one (ps_ret (pe_tup (pa_cons (pv 2) (pa_cons (pv 1) (pa_cons (pe_op op_sub (pe_callB (r := rSumT K) (cr_sumT rfl) (by rfl) T.b_sum boot_sum (pa_cons (pe_fldK K rfl (pv 0) rfl) pa_nil)) (pv 2)) pa_nil)))))))), ?_⟩
    refine q_asg (ev_sumL (by walk_at "ev") hl) fun H1 e1 => ?_
    have fd := hP.fd.mono e1
    refine q_asg (ev_op (ev_sumT (by walk_at "ev") (ex_t e1 hP.hd)) (by walk_at "ev") rv_I0) fun H2 e2 => ?_
    have fb := hP.fb.mono (e1.trans e2)
    refine s_retU (eu_tup (ea_cons (ev_var rfl) (ea_cons (ev_var rfl) (ea_cons (ev_op (ev_sumT (by walk_at "ev") (ex_t (e1.trans e2) hP.hb)) (ev_var rfl) rv_I0) ea_nil))) (by show 3 ≤ 100000; decide)) fun q H3 hq e3 h3 => k q H3 (fresh_back (e1.trans e2) hq) ((e1.trans e2).trans e3) h3
/-- the first so many days -/
def missedI (bs fm lm : List Int) (days : Int) : Int := (fm.take days.toNat).sum + sumRep lm (max 0 (days - (bs.length : Int)))
def totI (bs ds ks : List Int) (gain first full : Int) (fm lm : List Int) (days : Int) : List Int :=
  [sumRep ds days - missedI bs fm lm days, missedI bs fm lm days, sumRep bs days - (sumRep ds days - missedI bs fm lm days) - stockI bs ds ks gain first full days]
def sp_before (K : PySem.W.Frag) (Z : Ad) : Sp := fun vs H Q _ => ∃ (c : Addr) (bs ds ks : List Int) (gain first full : Int) (fm lm : List Int) (days : Int), vs = [.ref c, .int days] ∧ 0 ≤ days ∧ CO K Z H c bs ds ks gain first full fm lm ∧ RetU ((totI bs ds ks gain first full fm lm days).map V.int) H Q
theorem spv_sumrep {K : PySem.W.Frag} {H : Hp} {a : Addr} {am : List Int} {days : Int} (h : SqT K H a (am.map V.int) ∨ SqL K H a (am.map V.int)) (h0 : 0 < am.length) (h1 : am.length ≤ 24) (h2 : am.sum.natAbs ≤ 2 ^ 40) :
    SpV (sp_sum_repeated K) [.ref a, .int days] H (.int (sumRep am days)) := fun _ e _ q _ => ⟨a, am, days, rfl, h.imp (ex_t e) (ex_l e), h0, h1, h2, q⟩
theorem ok_Course_sales_before (T : Txt K mg Z) : FnOk P w K mg base CX0 4 Z.f_Course_sales_before Z.d_Course_sales_before p_Course_sales_before (sp_before K Z) := by
  refine T.F_Course_sales_before.ok sc_Course_sales_before (fun vs H Q E h => ?_) (fun cdv Ar outer s H vs Q E hr h => ?_)
  · obtain ⟨c, bs, ds, ks, gain, first, full, fm, lm, days, rfl, _⟩ := h
    rfl
  · obtain ⟨c, bs, ds, ks, gain, first, full, fm, lm, days, rfl, hd0, hC, k⟩ := h
    obtain ⟨tb, td, tk, hS⟩ := hC.sr
    have hP := hS.pr
    have h0 := hP.gd.n0
    have h1 := hP.gd.n1
    have hld := hP.gd.ld
    have fb := hP.fb
    have hdn : days = ((days.toNat : Nat) : Int) := by omega
    have hl : ((bs.map V.int).length : Int) = (bs.length : Int) := by rw [List.length_map]
    refine ⟨_, (pss_cons (ps_set (i := 2) sc_Course_sales_before.nd rfl (Or.inl rfl) (pe_callB (r := rMax2) (call_max2 rfl) (by rfl) T.b_max boot_max (pa_cons pe_int (pa_cons (pe_op op_sub (pv 1) (pe_callB (r := rLenS K) (call_len_seq) (by rfl) T.b_len boot_len (pa_cons (pe_fldK K rfl (pv 0) rfl) pa_nil))) pa_nil))))
      (pss_cons (ps_set (i := 3) sc_Course_sales_before.nd rfl (Or.inl rfl) (pe_op op_add (pe_callB (r := rSum K) (cr_sum rfl) (by rfl) T.b_sum boot_sum (pa_cons (pe_slice (r := rSlL K) sl_list (pe_fldK K rfl (pv 0) rfl) po_none (po_some (pv 1))) pa_nil)) (pe_call (ok_sum_repeated T) (hr.mono (by decide)) (by rfl) T.g_sum_repeated T.F_sum_repeated.kp T.b_sum_repeated .nil pass0 (pa_cons (pe_fldK K rfl (pv 0) rfl) (pa_cons (pv 2) pa_nil)))))
      (pss_cons (ps_set (i := 4) sc_Course_sales_before.nd rfl (Or.inl rfl) (pe_op op_sub (pe_call (ok_sum_repeated T) (hr.mono (by decide)) (by rfl) T.g_sum_repeated T.F_sum_repeated.kp T.b_sum_repeated .nil pass0 (pa_cons (pe_fldK K rfl (pv 0) rfl) (pa_cons (pv 1) pa_nil))) (pv 3)))
      (pss_one (ps_ret (pe_tup (pa_cons (pv 4) (pa_cons (pv 3) (pa_cons (pe_op op_sub (pe_op op_sub (pe_call (ok_sum_repeated T) (hr.mono (by decide)) (by rfl) T.g_sum_repeated T.F_sum_repeated.kp T.b_sum_repeated .nil pass0 (pa_cons (pe_fldK K rfl (pv 0) rfl) (pa_cons (pv 1) pa_nil))) (pv 4)) (pe_meth (pv 0) T.cl_Course T.m_Course_stock_at (ok_Course_stock_at T) (hr.mono (by decide)) T.b_Course_stock_at .nil pass0 (pa_cons (pv 1) pa_nil))) pa_nil))))))))), ?_⟩
    refine q_asg (ev_maxi ev_c (ev_op (ev_var rfl) (Ev.int_eq (ev_lenT (by walk_at "ev") hP.hb) hl) rv_I0)) fun H1 e1 => ?_
    have hC1 := hC.mono e1
    obtain ⟨tf, ff, hf⟩ := hC1.ffm
    obtain ⟨tl, fl, hlm⟩ := hC1.flm
    refine q_asg (ev_op (ev_sumM (ns := fm.take days.toNat) ?_) (ev_call (vs := [.ref tl, .int (max 0 (days - (bs.length : Int)))]) (ea_cons (by walk_at "ev") (ea_cons (ev_var rfl) ea_nil)) (spv_sumrep (.inr hlm) (by rw [hC.llm]; omega) (by rw [hC.llm]; omega) hC.slm)) rv_I0) fun H2 e2 => ?_
    · rw [List.map_take]
      exact EvL.m (el_take (em_of (by walk_at "ev") hf) (Ev.int_eq (ev_var rfl) hdn))
    have hP2 := hP.mono (e1.trans e2)
    have fd := hP2.fd
    refine q_asg (ev_op (ev_call (vs := [.ref td, .int days]) (ea_cons (by walk_at "ev") (ea_cons (ev_var rfl) ea_nil)) (spv_sumrep (.inl hP2.hd) (by omega) (by omega) hC.sd)) (ev_var rfl) rv_I0) fun H3 e3 => ?_
    have eA := (e1.trans e2).trans e3
    have hP3 := hP.mono eA
    have fb3 := hP3.fb
    refine s_retU (eu_tup (ea_cons (ev_var rfl) (ea_cons (ev_var rfl) (ea_cons (ev_op (ev_op (ev_call (vs := [.ref tb, .int days]) (ea_cons (by walk_at "ev") (ea_cons (ev_var rfl) ea_nil)) (spv_sumrep (.inl hP3.hb) (by omega) (by omega) hC.sb)) (ev_var rfl) rv_I0)
      (ev_meth (ev_var rfl) (((hC.nf _ (by decide)).mono eA)) (ea_cons (ev_var rfl) ea_nil) (spv_stock_at (hS.mono eA))) rv_I0) ea_nil))) (by show 3 ≤ 100000; decide)) fun q H4 hq e4 h4 => k q H4 (fresh_back eA hq) (eA.trans e4) h4
end Sw
namespace Sw
open PySem PySem.Spec PyProof.Rows L2 Evl
local macro_rules | `(tactic| walk_at "ev") => `(tactic| first
  | exact ev_c
  | exact ev_var rfl
  | ((with_reducible show Ev (tCB rMax2 _) _ _ _); exact ev_maxi (by walk_at "ev") (by walk_at "ev"))
  | ((with_reducible show Ev (tCB rMn _) _ _ _); exact ev_min2 (by walk_at "ev") (by walk_at "ev"))
  | ((with_reducible show Ev (tUn _ _) _ _ _); exact ev_un (by walk_at "ev") ru_neg)
  | ((with_reducible show Ev (tFld _ _ _) _ _ _); exact ev_fldK (by walk_at "ev") (by assumption))
  | ((with_reducible show Ev (tOp (rI0 _) _ _) _ _ _); exact ev_op (by walk_at "ev") (by walk_at "ev") rv_I0)
  | ((with_reducible show Ev (tOp rEq _ _) _ _ _); exact ev_op (by walk_at "ev") (by walk_at "ev") (rv_eq rfl))
  | ((with_reducible show Ev (tOp rNe _ _) _ _ _); exact ev_op (by walk_at "ev") (by walk_at "ev") (rv_ne rfl)))

/-! ### what a course is made with -/
def gainOf (bs ds : List Int) : Int := max 0 (bs.sum - ds.sum)
def firstOf (bs ds ks : List Int) : Int := stkAt bs ds ks 0 bs.length
def fullOf (bs ds ks : List Int) : Int := stkAt bs ds ks (ks.getD 0 0 + ds.getD 0 0) bs.length
def fmOf (bs ds ks : List Int) : List Int := missL ds bs (stkL bs ds ks (start1 (gainOf bs ds) (firstOf bs ds ks) (fullOf bs ds ks) 0))
def lmOf (bs ds ks : List Int) : List Int := missL ds bs (stkL bs ds ks (start1 (gainOf bs ds) (firstOf bs ds ks) (fullOf bs ds ks) 1))
theorem sum_bound {xs : List Int} {M : Int} (hM : 0 ≤ M) (h : ∀ x ∈ xs, 0 ≤ x ∧ x ≤ M) : 0 ≤ xs.sum ∧ xs.sum ≤ (xs.length : Int) * M := by
  induction xs with
  | nil => simp
  | cons a r ih =>
    have h1 := h a (by simp)
    have h2 := ih fun x hx => h x (by simp [hx])
    rw [List.sum_cons, List.length_cons]
    have e : ((r.length + 1 : Nat) : Int) * M = (r.length : Int) * M + M := by
      rw [Int.natCast_add, Int.add_mul]; simp
    omega
theorem sum_small {xs : List Int} (hl : xs.length ≤ 24) (h : ∀ x ∈ xs, 0 ≤ x ∧ x ≤ 1000000000) : 0 ≤ xs.sum ∧ xs.sum ≤ 24000000000 := by
  have z := sum_bound (by omega : (0 : Int) ≤ 1000000000) h
  have : (xs.length : Int) * 1000000000 ≤ 24 * 1000000000 := Int.mul_le_mul_of_nonneg_right (by omega) (by omega)
  omega
theorem getD_mem0 {xs : List Int} {i : Nat} (h : ∀ x ∈ xs, 0 ≤ x ∧ x ≤ 1000000000) : 0 ≤ xs.getD i 0 ∧ xs.getD i 0 ≤ 1000000000 := by
  by_cases hi : i < xs.length
  · have e : xs.getD i 0 = xs[i] := by simp [List.getD, hi]
    rw [e]; exact h _ (List.getElem_mem hi)
  · have e : xs.getD i 0 = 0 := by simp [List.getD, List.getElem?_eq_none (Nat.le_of_not_lt hi)]
    rw [e]; omega
theorem keepAt_nn {bs : List Int} {life : Int} {i : Nat} (h : ∀ x ∈ bs, 0 ≤ x ∧ x ≤ 1000000000) : 0 ≤ keepAt bs life i := by
  unfold keepAt
  generalize (life - 1).toNat = m
  induction m with
  | zero => simp
  | succ m ih =>
    rw [List.range_succ, List.map_append, List.sum_append]
    have z := (getD_mem0 (i := ((((i : Int) - (m : Int)) % (bs.length : Int)).toNat)) h).1
    simp at z ih ⊢
    omega
theorem keepL_nn {bs : List Int} {life : Int} (h : ∀ x ∈ bs, 0 ≤ x ∧ x ≤ 1000000000) {i : Nat} : 0 ≤ (keepL bs life).getD i 0 := by
  unfold keepL
  by_cases hi : i < bs.length
  · have e : ((List.range bs.length).map (keepAt bs life)).getD i 0 = keepAt bs life i := by simp [List.getD, List.getElem?_range hi]
    rw [e]; exact keepAt_nn h
  · have e : ((List.range bs.length).map (keepAt bs life)).getD i 0 = 0 := by
      simp [List.getD, List.getElem?_eq_none (show (List.map (keepAt bs life) (List.range bs.length)).length ≤ i by simp; omega)]
    rw [e]; omega
theorem stp_nn {s b d k : Int} (hk : 0 ≤ k) : 0 ≤ stp s b d k := by unfold stp; omega
theorem stkAt_nn {bs ds ks : List Int} {s : Int} (hs : 0 ≤ s) (hk : ∀ i, 0 ≤ ks.getD i 0) (i : Nat) : 0 ≤ stkAt bs ds ks s i := by
  cases i with
  | zero => exact hs
  | succ i => exact stp_nn (hk i)
theorem missL_len {ds bs st : List Int} : (missL ds bs st).length = ds.length := by simp [missL]
theorem missL_small {ds bs st : List Int} (hd : ∀ x ∈ ds, 0 ≤ x ∧ x ≤ 1000000000) (hb : ∀ i, 0 ≤ bs.getD i 0) (hs : ∀ i, i < ds.length → 0 ≤ st.getD i 0) : ∀ x ∈ missL ds bs st, 0 ≤ x ∧ x ≤ 1000000000 := by
  intro x hx
  unfold missL at hx
  obtain ⟨i, hi, rfl⟩ := List.mem_map.mp hx
  have h1 := hb i
  have h2 := hs i (List.mem_range.mp hi)
  have h3 := getD_mem0 (i := i) hd
  omega
theorem start1_nn {gain first full r : Int} (hg : 0 ≤ gain) (hf : 0 ≤ first) (hu : 0 ≤ full) (hr : 0 ≤ r) : 0 ≤ start1 gain first full r := by
  unfold start1
  by_cases h : r = 0
  · rw [if_pos h]; omega
  · rw [if_neg h]
    have : 0 ≤ (r - 1) * gain := Int.mul_nonneg (by omega) hg
    omega
structure CoM (bs ds ks : List Int) : Prop where
  gd : Good bs ds
  kl : ks.length = bs.length
  kn : ∀ i, 0 ≤ ks.getD i 0
theorem CoM.first {bs ds ks : List Int} (h : CoM bs ds ks) : 0 ≤ firstOf bs ds ks := stkAt_nn (by omega) h.kn _
theorem CoM.full {bs ds ks : List Int} (h : CoM bs ds ks) : 0 ≤ fullOf bs ds ks := stkAt_nn (by have := h.kn 0; have := (getD_mem0 (i := 0) h.gd.d0).1; omega) h.kn _
theorem CoM.gainb {bs ds ks : List Int} (h : CoM bs ds ks) : 0 ≤ gainOf bs ds ∧ gainOf bs ds ≤ 24000000000 := by
  have z1 := sum_small h.gd.n1 h.gd.b0
  have z2 := sum_small (by have := h.gd.ld; have := h.gd.n1; omega) h.gd.d0
  unfold gainOf; omega
theorem CoM.miss {bs ds ks : List Int} (h : CoM bs ds ks) {r : Int} (hr : 0 ≤ r) : ∀ x ∈ missL ds bs (stkL bs ds ks (start1 (gainOf bs ds) (firstOf bs ds ks) (fullOf bs ds ks) r)), 0 ≤ x ∧ x ≤ 1000000000 := by
  refine missL_small h.gd.d0 (fun i => (getD_mem0 h.gd.b0).1) fun i hi => ?_
  rw [stkL_get (by have := h.gd.ld; omega)]
  exact stkAt_nn (start1_nn h.gainb.1 h.first h.full hr) h.kn i
/-- from H to S, what is not of M is kept, and what is of M is known -/
structure Go (M : Addr → Prop) (a : Addr) (H S : Hp) : Prop where
  ex : Ex (wn H M) (wn S M)
  kn : ∀ b, M b → S b ≠ none
  al : ∀ b o, H b = some o → b ≠ a → S b = some o
theorem Go.up {M : Addr → Prop} {H H1 : Hp} {a : Addr} {o : HO} (ha : M a) (kn : ∀ b, M b → H b ≠ none) (e : Ex H H1) : Go M a H (upd H1 a o) := by
  refine ⟨(wn_mono e).trans (wn_upd ha), fun b hb q => ?_, fun b u h z => by rw [upd_ne z]; exact e b u h⟩
  by_cases z : b = a
  · rw [z, upd_same] at q; cases q
  · rw [upd_ne z] at q
    cases hh : H b with
    | none => exact kn b hb hh
    | some u => rw [e b u hh] at q; cases q
/-- the finished course of a bakery -/
def CoAt (K : PySem.W.Frag) (Z : Ad) (H : Hp) (c : Addr) (bs ds ks : List Int) : Prop :=
  CO K Z H c bs ds ks (gainOf bs ds) (firstOf bs ds ks) (fullOf bs ds ks) (fmOf bs ds ks) (lmOf bs ds ks)
def sp_Cinit (K : PySem.W.Frag) (Z : Ad) : Sp := fun vs H Q _ => ∃ (x dx tb td : Addr) (bs ds : List Int) (life : Int) (N : Addr → Prop), vs = [.ref x, .ref tb, .ref td, .int life] ∧ H x = some (.ins Z.c_Course dx []) ∧
  SqT K (wn H N) tb (bs.map V.int) ∧ SqT K (wn H N) td (ds.map V.int) ∧ Good bs ds ∧ 1 ≤ life ∧ life ≤ 30 ∧
  (∀ b, N b → H b ≠ none) ∧ ¬ N x ∧ ∀ H', CoAt K Z (wn H' N) x bs ds (keepL bs life) → (∀ b o, H b = some o → b ≠ x → H' b = some o) → Q .non H'
theorem spl_keep {K : PySem.W.Frag} {H : Hp} {a : Addr} {bs : List Int} {life : Int} (h : SqT K H a (bs.map V.int)) (h0 : 0 < bs.length) (h1 : bs.length ≤ 24) (h2 : 1 ≤ life) (h3 : life ≤ 30) :
    SpL (sp_count_keepable K) [.ref a, .int life] H ((keepL bs life).map V.int) := fun _ e _ q _ => ⟨a, bs, life, rfl, ex_t e h, h0, h1, h2, h3, q⟩
theorem keepL_len {bs : List Int} {life : Int} : (keepL bs life).length = bs.length := by simp [keepL]
theorem atI_neg1 {xs : List Int} {n : Nat} (h : xs.length = n + 1) : atI (xs.map V.int) (-1) = some (.int (xs.getD n 0)) := by
  have e : ixN (xs.map V.int).length (-1) = some n := by
    unfold ixN
    rw [List.length_map, h]
    rw [if_neg (by omega), if_pos (by omega)]
    congr 1
    omega
  unfold atI
  rw [e]
  simp [List.getD, h]
theorem flk_of {K : PySem.W.Frag} {S : Hp} {x C dx : Addr} {fs : List (Str × V)} {f : Str} {v : V} (h : S x = some (.ins C dx fs)) (c : Cls K C) (n : NoAttr K C f) (l : fs.lookup f = some v) : FlK K S x C f v := ⟨⟨dx, fs, h, l⟩, c, n⟩
def cf3 (tb td tk : Addr) : List (Str × V) := putF "_keepable" (.ref tk) (putF "_demands" (.ref td) (putF "_bakes" (.ref tb) []))
def cf6 (tb td tk : Addr) (g a b : Int) : List (Str × V) := putF "_full_end" (.int b) (putF "_first_end" (.int a) (putF "_gain" (.int g) (cf3 tb td tk)))
def cf8 (tb td tk tf tl : Addr) (g a b : Int) : List (Str × V) := putF "_later_misses" (.ref tl) (putF "_first_misses" (.ref tf) (cf6 tb td tk g a b))
section
variable {K : PySem.W.Frag} {σ : L2.St} {H : Hp} {ta te : TE} {v : V} {a C dx : Addr} {fs : List (Str × V)} {f : Str} {D : Ends} {tz : TS}
variable {M : Addr → Prop}
/-- self.f = e while self is being made -/
theorem q_self (ha : M a) (kn : ∀ b, M b → H b ≠ none) (h : Ev te σ H v) (ho : ∀ H1, Ex H H1 → Ev ta σ H1 (.ref a)) (hx : H a = some (.ins C dx fs)) (c : Cls K C) (n : NoAttr K C f) (hl : fs.length < 1000)
    (k : ∀ S : Hp, S a = some (.ins C dx (putF f v fs)) → Go M a H S → tz D σ S) : tSeq (sFld K ta te f) tz D σ H := q_fld h ho hx c n hl fun H1 e => k _ upd_same (Go.up ha kn e)
theorem fresh_l {H H1 : Hp} {p : Addr} {xs : List V} {o : HO} (ha : M a) (kn : ∀ b, M b → H b ≠ none) (hp : H p = none) (h1 : H1 p = some (.lst xs)) : SqL K (wn (upd H1 a o) M) p xs := by
  have q : ¬ M p := fun z => kn p z hp
  have nb : p ≠ a := fun z => q (by rw [z]; exact ha)
  exact sq_of (by rw [wn_ni q, upd_ne nb]; exact h1)
theorem fresh_t {H H1 : Hp} {p : Addr} {xs : List V} {o : HO} (ha : M a) (kn : ∀ b, M b → H b ≠ none) (hp : H p = none) (h1 : H1 p = some (.tup xs)) : SqT K (wn (upd H1 a o) M) p xs := by
  have q : ¬ M p := fun z => kn p z hp
  have nb : p ≠ a := fun z => q (by rw [z]; exact ha)
  exact st_of (by rw [wn_ni q, upd_ne nb]; exact h1)
theorem q_selfL {xs : List V} (ha : M a) (kn : ∀ b, M b → H b ≠ none) (h : EvL te σ H xs) (ho : ∀ H1, Ex H H1 → Ev ta σ H1 (.ref a)) (hx : H a = some (.ins C dx fs)) (c : Cls K C) (n : NoAttr K C f) (hl : fs.length < 1000)
    (k : ∀ (p : Addr) (S : Hp), SqL K (wn S M) p xs → S a = some (.ins C dx (putF f (.ref p) fs)) → Go M a H S → tz D σ S) : tSeq (sFld K ta te f) tz D σ H := q_fldL h ho hx c n hl fun p H1 hp e h1 =>
  k p _ (fresh_l ha kn hp h1) upd_same (Go.up ha kn e)
theorem s_selfL {xs : List V} (ha : M a) (kn : ∀ b, M b → H b ≠ none) (h : EvL te σ H xs) (ho : ∀ H1, Ex H H1 → Ev ta σ H1 (.ref a)) (hx : H a = some (.ins C dx fs)) (c : Cls K C) (n : NoAttr K C f) (hl : fs.length < 1000)
    (k : ∀ (p : Addr) (S : Hp), SqL K (wn S M) p xs → S a = some (.ins C dx (putF f (.ref p) fs)) → Go M a H S → D.nx σ S) : sFld K ta te f D σ H := s_fldL h ho hx c n hl fun p H1 hp e h1 =>
  k p _ (fresh_l ha kn hp h1) upd_same (Go.up ha kn e)
theorem q_selfU {xs : List V} (ha : M a) (kn : ∀ b, M b → H b ≠ none) (h : EvU te σ H xs) (ho : ∀ H1, Ex H H1 → Ev ta σ H1 (.ref a)) (hx : H a = some (.ins C dx fs)) (c : Cls K C) (n : NoAttr K C f) (hl : fs.length < 1000)
    (k : ∀ (p : Addr) (S : Hp), SqT K (wn S M) p xs → S a = some (.ins C dx (putF f (.ref p) fs)) → Go M a H S → D.nx σ S) : sFld K ta te f D σ H := s_fldU h ho hx c n hl fun p H1 hp e h1 =>
  k p _ (fresh_t ha kn hp h1) upd_same (Go.up ha kn e)
end
variable {P : Program} {w : World} {K : PySem.W.Frag} {mg : Str → Option Value} {base : Heap} {Z : Ad}
theorem ok_Course___init__ (T : Txt K mg Z) : FnOk P w K mg base CX0 4 Z.f_Course___init__ Z.d_Course___init__ p_Course___init__ (sp_Cinit K Z) := by
  refine T.F_Course___init__.ok sc_Course___init__ (fun vs H Q E h => ?_) (fun cdv Ar outer s H vs Q E hr h => ?_)
  · obtain ⟨x, dx, tb, td, bs, ds, life, N, rfl, _⟩ := h
    rfl
  · obtain ⟨x, dx, tb, td, bs, ds, life, N, rfl, hx, hb, hd, gd, l0, l1, hN, nNx, k⟩ := h
    have hM : nx x N x := .inl rfl
    have cl := T.cl_Course
    have hbw : SqT K (wn H (nx x N)) tb (bs.map V.int) := wn_tx hx hb
    have hdw : SqT K (wn H (nx x N)) td (ds.map V.int) := wn_tx hx hd
    have kn0 : ∀ b, nx x N b → H b ≠ none := fun b z q => z.elim (fun e => by rw [e, hx] at q; cases q) fun e => hN b e q
    refine ⟨_, (pss_cons (ps_fld (pv 0) (pv 1) rfl)
      (pss_cons (ps_fld (pv 0) (pv 2) rfl)
      (pss_cons (ps_fld (pv 0) (pe_call (ok_count_keepable T) (hr.mono (by decide)) (by rfl) T.g_count_keepable T.F_count_keepable.kp T.b_count_keepable .nil pass0 (pa_cons (pv 1) (pa_cons (pv 3) pa_nil))) rfl)
      (pss_cons (ps_fld (pv 0) (pe_callB (r := rMax2) (call_max2 rfl) (by rfl) T.b_max boot_max (pa_cons pe_int (pa_cons (pe_op op_sub (pe_callB (r := rSumT K) (cr_sumT rfl) (by rfl) T.b_sum boot_sum (pa_cons (pv 1) pa_nil)) (pe_callB (r := rSumT K) (cr_sumT rfl) (by rfl) T.b_sum boot_sum (pa_cons (pv 2) pa_nil))) pa_nil))) rfl)
      (pss_cons (ps_fld (pv 0) (pe_ix (r := rIxL K) ix_list (pe_meth (pv 0) T.cl_Course T.m_Course__play_round (ok_Course__play_round T) (hr.mono (by decide)) T.b_Course__play_round .nil pass0 (pa_cons pe_int pa_nil)) (pe_un un_neg pe_int) (fun _ _ => rfl)) rfl)
      (pss_cons (ps_fld (pv 0) (pe_ix (r := rIxL K) ix_list (pe_meth (pv 0) T.cl_Course T.m_Course__play_round (ok_Course__play_round T) (hr.mono (by decide)) T.b_Course__play_round .nil pass0 (pa_cons (pe_op op_add (pe_ix (r := rIxL K) ix_list (pe_fldK K rfl (pv 0) rfl) pe_int (fun _ _ => rfl)) (pe_ix (r := rIxT K) ix_tup (pv 2) pe_int (fun _ _ => rfl))) pa_nil)) (pe_un un_neg pe_int) (fun _ _ => rfl)) rfl)
      (pss_cons (ps_fld (pv 0) (pe_meth (pv 0) T.cl_Course T.m_Course__misses_in (ok_Course__misses_in T) (hr.mono (by decide)) T.b_Course__misses_in .nil pass0 (pa_cons pe_int pa_nil)) rfl)
      (pss_one (ps_fld (pv 0) (pe_meth (pv 0) T.cl_Course T.m_Course__misses_in (ok_Course__misses_in T) (hr.mono (by decide)) T.b_Course__misses_in .nil pass0 (pa_cons pe_int pa_nil)) rfl))))))))), ?_⟩
    -- _bakes, _demands, _keepable
    refine q_self hM kn0 (ev_var rfl) (fun _ _ => ev_var rfl) hx cl T.na_Course__bakes (by decide) fun S1 x1 g1 => ?_
    have w1 := g1.ex
    refine q_self hM g1.kn (ev_var rfl) (fun _ _ => ev_var rfl) x1 cl T.na_Course__demands (by show 1 < 1000; decide) fun S2 x2 g2 => ?_
    have w2 := g2.ex
    refine q_selfL hM g2.kn (el_call (vs := [.ref tb, .int life]) (ea_cons (ev_var rfl) (ea_cons (ev_var rfl) ea_nil)) (spl_keep (ex_t ((w1.trans w2).trans wn_ex) hbw) gd.n0 gd.n1 l0 l1)) (fun _ _ => ev_var rfl) x2 cl T.na_Course__keepable (by show 2 < 1000; decide) fun tk S3 hk3 x3 g3 => ?_
    have w3' := g3.ex
    have w3 := (w1.trans w2).trans w3'
    have m0 : CoM bs ds (keepL bs life) := ⟨gd, keepL_len, fun i => keepL_nn gd.b0⟩
    have sb : ∀ {S : Hp}, Ex (wn S (nx x N)) (wn S N) := wn_sub fun b z => .inr z
    have pr : ∀ {S : Hp} {fs : List (Str × V)}, Ex (wn S3 (nx x N)) (wn S (nx x N)) → S x = some (.ins Z.c_Course dx fs) → fs.lookup ("_bakes" : Str) = some (V.ref tb) → fs.lookup ("_demands" : Str) = some (V.ref td) → fs.lookup ("_keepable" : Str) = some (V.ref tk) → fs.lookup ("_play_round" : Str) = none → PR K Z (wn S N) x bs ds (keepL bs life) tb td tk :=
      fun e hx' l1 l2 l3 l4 => by
        have hx : wn _ N x = _ := (wn_ni nNx).trans hx'
        exact ⟨flk_of hx cl T.na_Course__bakes l1, ex_t sb (ex_t e (ex_t w3 hbw)), flk_of hx cl T.na_Course__demands l2, ex_t sb (ex_t e (ex_t w3 hdw)), flk_of hx cl T.na_Course__keepable l3, ex_l sb (ex_l e hk3), ⟨_, _, hx, l4⟩, gd, keepL_len⟩
    -- _gain
    refine q_self hM g3.kn (v := .int (gainOf bs ds)) (ev_maxi ev_c (ev_op (ev_sumT (ev_var rfl) (ex_t wn_ex (ex_t w3 hbw))) (ev_sumT (ev_var rfl) (ex_t wn_ex (ex_t w3 hdw))) rv_I0)) (fun _ _ => ev_var rfl) x3 cl T.na_Course__gain (by show 3 < 1000; decide) fun S4 x4 g4 => ?_
    have w4 := g4.ex
    have p4 := (pr w4 x4 rfl rfl rfl rfl).mono wn_ex
    -- _first_end
    have n1 : (stkL bs ds (keepL bs life) 0).length = bs.length + 1 := stkL_len
    refine q_self hM g4.kn (v := .int (firstOf bs ds (keepL bs life))) (ev_is (ev_ixNL (el_meth (ev_var rfl) p4.nf (ea_cons ev_c ea_nil) (spl_play (s := 0) p4)) (ev_un ev_c ru_neg) (atI_neg1 n1)) (by rw [stkL_get (Nat.le_refl _)]; rfl)) (fun _ _ => ev_var rfl) x4 cl T.na_Course__first_end (by show 4 < 1000; decide) fun S5 x5 g5 => ?_
    have w5 := g5.ex
    have p5 := (pr (w4.trans w5) x5 rfl rfl rfl rfl).mono wn_ex
    -- _full_end
    have n2 : (stkL bs ds (keepL bs life) ((keepL bs life).getD 0 0 + ds.getD 0 0)).length = bs.length + 1 := stkL_len
    have h0 := gd.n0
    have hld := gd.ld
    have fk5 := p5.fk
    refine q_self hM g5.kn (v := .int (fullOf bs ds (keepL bs life))) (ev_is (ev_ixNL (el_meth (ev_var rfl) p5.nf (ea_cons (ev_op (ev_ixL (by walk_at "ev") p5.hk ev_c (atI_mapI (i := 0) (by omega) (by rw [keepL_len]; omega))) (ev_ixT (ev_var rfl) p5.hd ev_c (atI_mapI (i := 0) (by omega) (by omega))) rv_I0) ea_nil) (spl_play p5)) (ev_un ev_c ru_neg) (atI_neg1 n2)) (by rw [stkL_get (Nat.le_refl _)]; rfl)) (fun _ _ => ev_var rfl) x5 cl T.na_Course__full_end (by show 5 < 1000; decide) fun S6 x6 g6 => ?_
    have w6 := g6.ex
    have w46 := (w4.trans w5).trans w6
    have gb := m0.gainb
    have sr : ∀ {S : Hp} {fs : List (Str × V)}, Ex (wn S6 (nx x N)) (wn S (nx x N)) → S x = some (.ins Z.c_Course dx fs) → fs.lookup ("_bakes" : Str) = some (V.ref tb) → fs.lookup ("_demands" : Str) = some (V.ref td) → fs.lookup ("_keepable" : Str) = some (V.ref tk) → fs.lookup ("_play_round" : Str) = none →
        fs.lookup ("_gain" : Str) = some (V.int (gainOf bs ds)) → fs.lookup ("_first_end" : Str) = some (V.int (firstOf bs ds (keepL bs life))) → fs.lookup ("_full_end" : Str) = some (V.int (fullOf bs ds (keepL bs life))) → fs.lookup ("_stocks_in" : Str) = none → SR K Z (wn S N) x bs ds (keepL bs life) tb td tk (gainOf bs ds) (firstOf bs ds (keepL bs life)) (fullOf bs ds (keepL bs life)) :=
      fun e hx' l1 l2 l3 l4 l5 l6 l7 l8 => by
        have hx : wn _ N x = _ := (wn_ni nNx).trans hx'
        exact ⟨pr (w46.trans e) hx' l1 l2 l3 l4, flk_of hx cl T.na_Course__gain l5, flk_of hx cl T.na_Course__first_end l6, flk_of hx cl T.na_Course__full_end l7, ⟨_, _, hx, l8⟩, by omega⟩
    have s6 := (sr (Ex.refl _) x6 rfl rfl rfl rfl rfl rfl rfl rfl).mono wn_ex
    refine q_selfL hM g6.kn (xs := (fmOf bs ds (keepL bs life)).map V.int) (el_meth (ev_var rfl) ⟨_, _, x6, rfl⟩ (ea_cons ev_c ea_nil) (spl_misses (r := 0) s6)) (fun _ _ => ev_var rfl) x6 cl T.na_Course__first_misses (by show 6 < 1000; decide) fun tf S7 hf7 x7 g7 => ?_
    have w7 := g7.ex
    have s7 := (sr w7 x7 rfl rfl rfl rfl rfl rfl rfl rfl).mono wn_ex
    refine s_selfL hM g7.kn (xs := (lmOf bs ds (keepL bs life)).map V.int) (el_meth (ev_var rfl) ⟨_, _, x7, rfl⟩ (ea_cons ev_c ea_nil) (spl_misses (r := 1) s7)) (fun _ _ => ev_var rfl) x7 cl T.na_Course__later_misses (by show 7 < 1000; decide) fun tl S8 hl8 x8 g8 => ?_
    have w8 := g8.ex
    have s8 := sr (w7.trans w8) x8 rfl rfl rfl rfl rfl rfl rfl rfl
    have ll : (lmOf bs ds (keepL bs life)).length = bs.length := by unfold lmOf; rw [missL_len]; exact hld
    have q1 := sum_small (xs := lmOf bs ds (keepL bs life)) (by rw [ll]; exact gd.n1) (m0.miss (r := 1) (by omega))
    have q2 := sum_small gd.n1 gd.b0
    have q3 := sum_small (by have := gd.n1; omega) gd.d0
    have y8 : wn S8 N x = _ := (wn_ni nNx).trans x8
    refine k S8 ⟨⟨tb, td, tk, s8⟩, ⟨tf, flk_of y8 cl T.na_Course__first_misses rfl, ex_l sb (ex_l w8 hf7)⟩, ⟨tl, flk_of y8 cl T.na_Course__later_misses rfl, ex_l sb hl8⟩, ?_, ll, ?_, by omega, by omega, ?_⟩ fun b o hbo hne => ?_
    · unfold fmOf; rw [missL_len]; exact hld
    · omega
    · intro m hm
      refine ⟨_, _, y8, ?_⟩
      simp only [List.mem_cons, List.not_mem_nil, or_false] at hm
      rcases hm with rfl | rfl | rfl | rfl | rfl | rfl | rfl | rfl <;> rfl
    · exact g8.al b o (g7.al b o (g6.al b o (g5.al b o (g4.al b o (g3.al b o (g2.al b o (g1.al b o hbo hne) hne) hne) hne) hne) hne) hne) hne
end Sw
namespace Sw
/-! ### the mathematics of the stock -/
section
variable {bs ds ks : List Int}
/-- what is gained in the first so many days of a round -/
def dlt (bs ds : List Int) : Nat → Int
  | 0 => 0
  | i + 1 => dlt bs ds i + (bs.getD i 0 - ds.getD i 0)
theorem clamp_step {lo hi z b d k : Int} (h0 : 0 ≤ lo) (h1 : lo ≤ hi) (hk : 0 ≤ k) :
    stp (min hi (max lo z)) b d k = min (stp hi b d k) (max (stp lo b d k) (z + (b - d))) := by
  unfold stp; omega
theorem clamp (h : CoM bs ds ks) (i : Nat) (hi : 0 < i) : ∃ lo hi : Int, 0 ≤ lo ∧ lo ≤ hi ∧ (∀ x, stkAt bs ds ks x i = min hi (max lo (x + dlt bs ds i))) ∧ stkAt bs ds ks (ks.getD 0 0 + ds.getD 0 0) i = hi := by
  induction i with
  | zero => omega
  | succ i ih =>
    have hk := h.kn i
    by_cases hi0 : i = 0
    · subst hi0
      have hb := (getD_mem0 (i := 0) h.gd.b0).1
      refine ⟨0, ks.getD 0 0, Int.le_refl _, hk, fun x => ?_, ?_⟩
      · show stp x _ _ _ = _
        unfold stp dlt dlt
        omega
      · show stp _ _ _ _ = _
        unfold stp
        simp only [stkAt]
        omega
    · obtain ⟨lo, hi', a, b, c, d⟩ := ih (by omega)
      refine ⟨stp lo (bs.getD i 0) (ds.getD i 0) (ks.getD i 0), stp hi' (bs.getD i 0) (ds.getD i 0) (ks.getD i 0), stp_nn hk, by unfold stp; omega, fun x => ?_, ?_⟩
      · show stp (stkAt bs ds ks x i) _ _ _ = _
        rw [c x, clamp_step a b hk]
        have e : x + dlt bs ds i + (bs.getD i 0 - ds.getD i 0) = x + dlt bs ds (i + 1) := by
          show _ = x + (dlt bs ds i + _); omega
        rw [e]
      · show stp (stkAt bs ds ks _ i) _ _ _ = _
        rw [d]
theorem sum_take_succ (xs : List Int) (i : Nat) : (xs.take (i + 1)).sum = (xs.take i).sum + xs.getD i 0 := by
  induction xs generalizing i with
  | nil => simp
  | cons a r ih =>
    cases i with
    | zero => simp
    | succ i =>
      have z := ih i
      simp only [List.take_succ_cons, List.sum_cons, List.getD_cons_succ]
      omega
theorem dlt_sum (i : Nat) : dlt bs ds i = (bs.take i).sum - (ds.take i).sum := by
  induction i with
  | zero => simp [dlt]
  | succ i ih => rw [sum_take_succ, sum_take_succ, dlt, ih]; omega
/-- a round: from the stock at its beginning to the one at its end -/
theorem round_clamp (h : CoM bs ds ks) : ∃ lo : Int, 0 ≤ lo ∧ lo ≤ fullOf bs ds ks ∧ ∀ x, stkAt bs ds ks x bs.length = min (fullOf bs ds ks) (max lo (x + (bs.sum - ds.sum))) := by
  obtain ⟨lo, hi, a, b, c, d⟩ := clamp h bs.length h.gd.n0
  have e : fullOf bs ds ks = hi := d
  have q : dlt bs ds bs.length = bs.sum - ds.sum := by
    rw [dlt_sum, List.take_length, ← h.gd.ld, List.take_length]
  rw [e]
  exact ⟨lo, a, b, fun x => by rw [c x, q]⟩
abbrev st (bs ds ks : List Int) (r : Int) : Int := start1 (gainOf bs ds) (firstOf bs ds ks) (fullOf bs ds ks) r
theorem st_zero : st bs ds ks 0 = 0 := by unfold st start1; rw [if_pos rfl]
theorem st_pos {r : Int} (h : r ≠ 0) : st bs ds ks r = min (fullOf bs ds ks) (firstOf bs ds ks + (r - 1) * gainOf bs ds) := by unfold st start1; rw [if_neg h]
theorem st_step (h : CoM bs ds ks) {r : Int} (hr : 0 ≤ r) : st bs ds ks (r + 1) = stkAt bs ds ks (st bs ds ks r) bs.length := by
  obtain ⟨lo, a, b, c⟩ := round_clamp h
  have hf : firstOf bs ds ks = min (fullOf bs ds ks) (max lo (0 + (bs.sum - ds.sum))) := c 0
  rw [st_pos (by omega)]
  by_cases h0 : r = 0
  · subst h0
    rw [st_zero]
    show _ = firstOf bs ds ks
    have e : ((0 : Int) + 1 - 1) * gainOf bs ds = 0 := by simp
    rw [e]; omega
  · rw [st_pos h0, c]
    have e : (r + 1 - 1) * gainOf bs ds = (r - 1) * gainOf bs ds + gainOf bs ds := by
      have : r + 1 - 1 = (r - 1) + 1 := by omega
      rw [this, Int.add_mul, Int.one_mul]
    rw [e]
    have hg : gainOf bs ds = max 0 (bs.sum - ds.sum) := rfl
    have hp : 0 ≤ (r - 1) * gainOf bs ds := Int.mul_nonneg (by omega) (by omega)
    by_cases hd : bs.sum - ds.sum ≤ 0
    · have g0 : gainOf bs ds = 0 := by omega
      rw [g0, Int.mul_zero]
      omega
    · generalize (r - 1) * gainOf bs ds = t at hp
      omega
/-- the days one by one -/
def dayS (bs ds ks : List Int) : Nat → Int
  | 0 => 0
  | t + 1 => stp (dayS bs ds ks t) (bs.getD (t % bs.length) 0) (ds.getD (t % bs.length) 0) (ks.getD (t % bs.length) 0)
theorem dayS_round (h : CoM bs ds ks) (r : Nat) : ∀ i, i ≤ bs.length → dayS bs ds ks (r * bs.length + i) = stkAt bs ds ks (st bs ds ks (r : Int)) i := by
  have hn := h.gd.n0
  induction r with
  | zero =>
    intro i hi
    rw [show ((0 : Nat) : Int) = 0 from rfl, st_zero]
    induction i with
    | zero => simp [dayS, stkAt]
    | succ i ih =>
      have e : (0 * bs.length + i) % bs.length = i := by rw [Nat.zero_mul, Nat.zero_add, Nat.mod_eq_of_lt (by omega)]
      rw [show 0 * bs.length + (i + 1) = (0 * bs.length + i) + 1 by omega]
      show stp (dayS bs ds ks (0 * bs.length + i)) _ _ _ = stp (stkAt bs ds ks 0 i) _ _ _
      rw [e, ih (by omega)]
  | succ r ihr =>
    intro i hi
    induction i with
    | zero =>
      have z := ihr bs.length (Nat.le_refl _)
      rw [← st_step h (by omega)] at z
      rw [show (r + 1) * bs.length + 0 = r * bs.length + bs.length by rw [Nat.add_mul, Nat.one_mul]; omega, z]
      show st bs ds ks ((r : Int) + 1) = st bs ds ks (((r + 1 : Nat)) : Int)
      congr 1
    | succ i ih =>
      have e : ((r + 1) * bs.length + i) % bs.length = i := by rw [Nat.mul_comm, Nat.mul_add_mod, Nat.mod_eq_of_lt (by omega)]
      rw [show (r + 1) * bs.length + (i + 1) = ((r + 1) * bs.length + i) + 1 by omega]
      show stp (dayS bs ds ks ((r + 1) * bs.length + i)) _ _ _ = stp (stkAt bs ds ks _ i) _ _ _
      rw [e, ih (by omega)]
theorem day_split (t n : Nat) (hn : 0 < n) : ((t : Int) / (n : Int)) = ((t / n : Nat) : Int) ∧ ((t : Int) % (n : Int)).toNat = t % n := by
  constructor
  · exact (Int.natCast_ediv t n).symm
  · have := Int.natCast_emod t n; omega
theorem stock_is (h : CoM bs ds ks) (t : Nat) : stockI bs ds ks (gainOf bs ds) (firstOf bs ds ks) (fullOf bs ds ks) (t : Int) = dayS bs ds ks t := by
  have hn := h.gd.n0
  obtain ⟨e1, e2⟩ := day_split t bs.length hn
  unfold stockI
  rw [e1, e2]
  have z := dayS_round h (t / bs.length) (t % bs.length) (Nat.le_of_lt (Nat.mod_lt _ hn))
  rw [show t / bs.length * bs.length + t % bs.length = t by rw [Nat.mul_comm]; exact Nat.div_add_mod _ _] at z
  exact z.symm
theorem end_is (h : CoM bs ds ks) (t : Nat) : endI bs ds ks (gainOf bs ds) (firstOf bs ds ks) (fullOf bs ds ks) (t : Int) = dayS bs ds ks (t + 1) := by
  have hn := h.gd.n0
  obtain ⟨e1, e2⟩ := day_split t bs.length hn
  unfold endI
  rw [e1, e2]
  have z := dayS_round h (t / bs.length) (t % bs.length + 1) (Nat.mod_lt _ hn)
  rw [show t / bs.length * bs.length + (t % bs.length + 1) = t + 1 by have := Nat.div_add_mod t bs.length; rw [Nat.mul_comm]; omega] at z
  exact z.symm
theorem dayS_nn (h : CoM bs ds ks) (t : Nat) : 0 ≤ dayS bs ds ks t := by
  cases t with
  | zero => exact Int.le_refl _
  | succ t => exact stp_nn (h.kn _)
/-- the stock is never less than a round before -/
theorem dayS_le (h : CoM bs ds ks) (t : Nat) : dayS bs ds ks t ≤ dayS bs ds ks (t + bs.length) := by
  induction t with
  | zero => exact dayS_nn h _
  | succ t ih =>
    rw [show t + 1 + bs.length = (t + bs.length) + 1 by omega]
    show stp _ _ _ _ ≤ stp _ _ _ _
    rw [Nat.add_mod_right]
    unfold stp; omega
theorem dayS_same {t : Nat} (e : dayS bs ds ks t = dayS bs ds ks (t + bs.length)) (u : Nat) : dayS bs ds ks (t + u) = dayS bs ds ks (t + u + bs.length) := by
  induction u with
  | zero => exact e
  | succ u ih =>
    rw [show t + (u + 1) + bs.length = (t + u + bs.length) + 1 by omega, show t + (u + 1) = (t + u) + 1 by omega]
    show stp _ _ _ _ = stp _ _ _ _
    rw [Nat.add_mod_right, ih]
/-! ### the settled day -/
theorem least {p : Nat → Prop} : ∀ n, p n → ∃ m, m ≤ n ∧ p m ∧ ∀ j, j < m → ¬ p j := by
  intro n
  induction n using Nat.strongRecOn with
  | ind n ih =>
    intro hp
    by_cases q : ∃ j, j < n ∧ p j
    · obtain ⟨j, hj, hpj⟩ := q
      obtain ⟨m, a, b, c⟩ := ih j hj hpj
      exact ⟨m, by omega, b, c⟩
    · exact ⟨n, Nat.le_refl _, hp, fun j hj hpj => q ⟨j, hj, hpj⟩⟩
abbrev grw (bs ds ks : List Int) : Int := growing (gainOf bs ds) (firstOf bs ds ks) (fullOf bs ds ks)
theorem first_le (h : CoM bs ds ks) : firstOf bs ds ks ≤ fullOf bs ds ks := by
  obtain ⟨lo, a, b, c⟩ := round_clamp h
  have hf : firstOf bs ds ks = min (fullOf bs ds ks) (max lo (0 + (bs.sum - ds.sum))) := c 0
  omega
/-- how the growing rounds are counted -/
theorem grw_props (h : CoM bs ds ks) : 0 ≤ grw bs ds ks ∧ fullOf bs ds ks ≤ firstOf bs ds ks + grw bs ds ks * gainOf bs ds ∨ gainOf bs ds = 0 ∧ grw bs ds ks = 0 := by
  have hg := h.gainb.1
  have hl := first_le h
  by_cases g0 : gainOf bs ds = 0
  · exact .inr ⟨g0, by unfold grw growing; rw [if_pos g0]⟩
  · left
    have gp : 0 < gainOf bs ds := by omega
    unfold grw growing
    rw [if_neg g0]
    have e := Int.ediv_mul_le (firstOf bs ds ks - fullOf bs ds ks) g0
    have q : (firstOf bs ds ks - fullOf bs ds ks) / gainOf bs ds ≤ 0 := by
      have := Int.ediv_le_ediv gp (show firstOf bs ds ks - fullOf bs ds ks ≤ 0 by omega)
      simpa using this
    rw [Int.neg_mul]
    omega
theorem grw_nn (h : CoM bs ds ks) : 0 ≤ grw bs ds ks := by
  rcases grw_props h with z | z <;> omega
theorem grw_end (h : CoM bs ds ks) : st bs ds ks (grw bs ds ks + 1) = st bs ds ks (grw bs ds ks + 2) := by
  have hn := grw_nn h
  rw [st_pos (by omega), st_pos (by omega)]
  rw [show grw bs ds ks + 1 - 1 = grw bs ds ks by omega, show grw bs ds ks + 2 - 1 = grw bs ds ks + 1 by omega, Int.add_mul, Int.one_mul]
  have hg := h.gainb.1
  rcases grw_props h with z | z
  · generalize grw bs ds ks * gainOf bs ds = t at z ⊢
    omega
  · rw [z.1]; simp
theorem set_ex (h : CoM bs ds ks) : ∃ i, SetAt bs ds ks (gainOf bs ds) (firstOf bs ds ks) (fullOf bs ds ks) i := by
  have hn := grw_nn h
  have e : stkAt bs ds ks (st bs ds ks (grw bs ds ks)) bs.length = stkAt bs ds ks (st bs ds ks (grw bs ds ks + 1)) bs.length := by
    rw [← st_step h hn, ← st_step h (by omega)]
    rw [show grw bs ds ks + 1 + 1 = grw bs ds ks + 2 by omega]
    exact grw_end h
  obtain ⟨m, a, b, c⟩ := least (p := fun i => stkAt bs ds ks (st bs ds ks (grw bs ds ks)) i = stkAt bs ds ks (st bs ds ks (grw bs ds ks + 1)) i) bs.length e
  exact ⟨m, a, b, c⟩
end
end Sw
namespace Sw
section
variable {bs ds ks : List Int}
/-! ### from the settled day on -/
theorem settled_same (h : CoM bs ds ks) {i : Nat} (hi : SetAt bs ds ks (gainOf bs ds) (firstOf bs ds ks) (fullOf bs ds ks) i) {t : Nat} (ht : grw bs ds ks * (bs.length : Int) + (i : Int) ≤ (t : Int)) :
    dayS bs ds ks t = dayS bs ds ks (t + bs.length) := by
  have hn := grw_nn h
  obtain ⟨R, hR⟩ : ∃ R : Nat, grw bs ds ks = (R : Int) := ⟨(grw bs ds ks).toNat, by omega⟩
  obtain ⟨a, b, c⟩ := hi
  change stkAt bs ds ks (st bs ds ks (grw bs ds ks)) i = stkAt bs ds ks (st bs ds ks (grw bs ds ks + 1)) i at b
  rw [hR] at b ht
  rw [← dayS_round h R i a, show ((R : Int) + 1) = ((R + 1 : Nat) : Int) by omega, ← dayS_round h (R + 1) i a, show (R + 1) * bs.length + i = R * bs.length + i + bs.length by rw [Nat.add_mul, Nat.one_mul]; omega] at b
  have e : (R : Int) * (bs.length : Int) = ((R * bs.length : Nat) : Int) := by rw [Int.natCast_mul]
  rw [e] at ht
  obtain ⟨u, rfl⟩ : ∃ u, t = R * bs.length + i + u := ⟨t - (R * bs.length + i), by omega⟩
  exact dayS_same b u
theorem settled_least (h : CoM bs ds ks) {i : Nat} (hi : SetAt bs ds ks (gainOf bs ds) (firstOf bs ds ks) (fullOf bs ds ks) i) {t : Nat} (ht : grw bs ds ks * (bs.length : Int) + (i : Int) = (t : Int) + 1) :
    dayS bs ds ks t ≠ dayS bs ds ks (t + bs.length) := by
  have hn := grw_nn h
  obtain ⟨R, hR⟩ : ∃ R : Nat, grw bs ds ks = (R : Int) := ⟨(grw bs ds ks).toNat, by omega⟩
  obtain ⟨a, b, c⟩ := hi
  change stkAt bs ds ks (st bs ds ks (grw bs ds ks)) i = stkAt bs ds ks (st bs ds ks (grw bs ds ks + 1)) i at b
  have e : (R : Int) * (bs.length : Int) = ((R * bs.length : Nat) : Int) := by rw [Int.natCast_mul]
  rw [hR, e] at ht
  cases i with
  | succ i =>
    have q := c i (Nat.lt_succ_self i)
    change stkAt bs ds ks (st bs ds ks (grw bs ds ks)) i ≠ stkAt bs ds ks (st bs ds ks (grw bs ds ks + 1)) i at q
    rw [hR, ← dayS_round h R i (by omega), show ((R : Int) + 1) = ((R + 1 : Nat) : Int) by omega, ← dayS_round h (R + 1) i (by omega), show (R + 1) * bs.length + i = R * bs.length + i + bs.length by rw [Nat.add_mul, Nat.one_mul]; omega] at q
    rwa [show t = R * bs.length + i by omega]
  | zero =>
    exfalso
    have b' : st bs ds ks (grw bs ds ks) = st bs ds ks (grw bs ds ks + 1) := b
    have hg := h.gainb.1
    have hl := first_le h
    have hR0 : R ≠ 0 := by
      intro z; subst z
      simp at ht; omega
    have g0 : ¬ gainOf bs ds = 0 := by
      intro z
      have : grw bs ds ks = 0 := by unfold grw growing; rw [if_pos z]
      omega
    have gp : 0 < gainOf bs ds := by omega
    rw [st_pos (by omega), st_pos (by omega), show grw bs ds ks + 1 - 1 = grw bs ds ks by omega, Int.sub_mul, Int.one_mul] at b'
    have ee : grw bs ds ks = -((firstOf bs ds ks - fullOf bs ds ks) / gainOf bs ds) := by unfold grw growing; rw [if_neg g0]
    have q1 := Int.lt_ediv_add_one_mul_self (firstOf bs ds ks - fullOf bs ds ks) gp
    have q2 : grw bs ds ks * gainOf bs ds = -((firstOf bs ds ks - fullOf bs ds ks) / gainOf bs ds * gainOf bs ds) := by rw [ee, Int.neg_mul]
    rw [Int.add_mul, Int.one_mul] at q1
    rcases grw_props h with z | z
    · generalize grw bs ds ks * gainOf bs ds = t1 at *
      generalize (firstOf bs ds ks - fullOf bs ds ks) / gainOf bs ds * gainOf bs ds = t2 at *
      omega
    · omega
/-! ### sums over days -/
def psum (f : Nat → Int) : Nat → Int
  | 0 => 0
  | t + 1 => psum f t + f t
theorem psum_add (f : Nat → Int) (a b : Nat) : psum f (a + b) = psum f a + psum (fun j => f (a + j)) b := by
  induction b with
  | zero => simp [psum]
  | succ b ih =>
    show psum f (a + b) + f (a + b) = _
    rw [ih]
    show _ = psum f a + (psum (fun j => f (a + j)) b + f (a + b))
    omega
theorem psum_congr {f g : Nat → Int} {n : Nat} (h : ∀ j, j < n → f j = g j) : psum f n = psum g n := by
  induction n with
  | zero => rfl
  | succ n ih =>
    show psum f n + f n = psum g n + g n
    rw [ih fun j hj => h j (by omega), h n (by omega)]
theorem psum_zero (n : Nat) : psum (fun _ => 0) n = 0 := by
  induction n with
  | zero => rfl
  | succ n ih => show psum _ n + 0 = 0; rw [ih]; rfl
theorem psum_sub (f g : Nat → Int) (n : Nat) : psum (fun j => f j - g j) n = psum f n - psum g n := by
  induction n with
  | zero => simp [psum]
  | succ n ih => show psum _ n + (f n - g n) = psum f n + f n - (psum g n + g n); rw [ih]; omega
theorem psum_take (xs : List Int) : ∀ n, (xs.take n).sum = psum (fun j => xs.getD j 0) n := by
  intro n
  induction n with
  | zero => simp [psum]
  | succ n ih => rw [sum_take_succ, ih]; rfl
theorem psum_sum (xs : List Int) : psum (fun j => xs.getD j 0) xs.length = xs.sum := by rw [← psum_take, List.take_length]
/-- a function that repeats after n, summed up over windows of n -/
theorem window {f : Nat → Int} {n a : Nat} (hf : ∀ t, a ≤ t → f (t + n) = f t) (u : Nat) : psum (fun j => f (a + u + j)) n = psum (fun j => f (a + j)) n := by
  induction u with
  | zero => rfl
  | succ u ih =>
    have e1 := psum_add (fun j => f (a + u + j)) 1 n
    have e2 := psum_add (fun j => f (a + u + j)) n 1
    rw [Nat.add_comm 1 n] at e1
    have e3 : psum (fun j => f (a + u + j)) 1 = f (a + u) := by show 0 + f (a + u + 0) = _; simp
    have e4 : psum (fun j => f (a + u + (n + j))) 1 = f (a + u + n) := by show 0 + f (a + u + (n + 0)) = _; simp
    have e5 : psum (fun j => f (a + u + (1 + j))) n = psum (fun j => f (a + (u + 1) + j)) n := psum_congr fun j _ => by congr 1; omega
    have e6 := hf (a + u) (by omega)
    rw [e3, e5] at e1
    rw [e4] at e2
    omega
theorem rounds_psum {f : Nat → Int} {n a : Nat} (hf : ∀ t, a ≤ t → f (t + n) = f t) (T : Nat) : psum f (a + T * n) = psum f a + (T : Int) * psum (fun j => f (a + j)) n := by
  induction T with
  | zero => simp
  | succ T ih =>
    rw [show a + (T + 1) * n = (a + T * n) + n by rw [Nat.add_mul, Nat.one_mul]; omega, psum_add, ih]
    have := window hf (T * n)
    rw [this]
    have : ((T + 1 : Nat) : Int) = (T : Int) + 1 := by omega
    rw [this, Int.add_mul, Int.one_mul]
    omega
theorem sumRep_psum (am : List Int) (h : 0 < am.length) (m : Nat) : sumRep am (m : Int) = psum (fun j => am.getD (j % am.length) 0) m := by
  obtain ⟨e1, e2⟩ := day_split m am.length h
  unfold sumRep
  rw [e1, e2]
  have hp : ∀ t, 0 ≤ t → (fun j => am.getD (j % am.length) 0) (t + am.length) = (fun j => am.getD (j % am.length) 0) t := fun t _ => by simp [Nat.add_mod_right]
  have z := rounds_psum (f := fun j => am.getD (j % am.length) 0) (n := am.length) (a := 0) hp (m / am.length)
  have e : m = (0 + m / am.length * am.length) + m % am.length := by have := Nat.div_add_mod m am.length; rw [Nat.mul_comm] at this; omega
  have w : psum (fun j => am.getD (j % am.length) 0) m = psum (fun j => am.getD (j % am.length) 0) (0 + m / am.length * am.length) + psum (fun j => (fun j => am.getD (j % am.length) 0) (0 + m / am.length * am.length + j)) (m % am.length) := by
    rw [← psum_add, ← e]
  rw [w, z]
  have q1 : psum (fun j => (fun j => am.getD (j % am.length) 0) (0 + j)) am.length = am.sum := by
    rw [← psum_sum]
    exact psum_congr fun j hj => by simp [Nat.mod_eq_of_lt hj]
  have q2 : psum (fun j => (fun j => am.getD (j % am.length) 0) (0 + m / am.length * am.length + j)) (m % am.length) = (am.take (m % am.length)).sum := by
    rw [psum_take]
    refine psum_congr fun j hj => ?_
    have hlt := Nat.mod_lt m h
    show am.getD ((0 + m / am.length * am.length + j) % am.length) 0 = _
    rw [Nat.zero_add, Nat.mul_comm, Nat.mul_add_mod, Nat.mod_eq_of_lt (by omega)]
  rw [q1, q2]
  show _ = 0 + _ + _
  omega
/-! ### a day's sales -/
def bk (bs : List Int) (t : Nat) : Int := bs.getD (t % bs.length) 0
def dm (bs ds : List Int) (t : Nat) : Int := ds.getD (t % bs.length) 0
def misS (bs ds ks : List Int) (t : Nat) : Int := max 0 (dm bs ds t - dayS bs ds ks t - bk bs t)
def solS (bs ds ks : List Int) (t : Nat) : Int := dm bs ds t - misS bs ds ks t
def thrS (bs ds ks : List Int) (t : Nat) : Int := bk bs t - solS bs ds ks t - (dayS bs ds ks (t + 1) - dayS bs ds ks t)
theorem sales_is (h : CoM bs ds ks) (t : Nat) : salesI bs ds ks (gainOf bs ds) (firstOf bs ds ks) (fullOf bs ds ks) (t : Int) = [solS bs ds ks t, misS bs ds ks t, thrS bs ds ks t] := by
  have hn := h.gd.n0
  obtain ⟨e1, e2⟩ := day_split t bs.length hn
  have es : soldI bs ds ks (gainOf bs ds) (firstOf bs ds ks) (fullOf bs ds ks) (t : Int) = solS bs ds ks t := by
    unfold soldI
    rw [stock_is h, e2]
    unfold solS misS dm bk
    omega
  unfold salesI
  rw [es, stock_is h, end_is h, e2]
  unfold thrS
  congr 1
  congr 1
  · unfold solS dm; omega
  · congr 1
    unfold bk
    omega
theorem misS_le (h : CoM bs ds ks) (t : Nat) : misS bs ds ks (t + bs.length) ≤ misS bs ds ks t := by
  have z := dayS_le h t
  unfold misS dm bk
  rw [Nat.add_mod_right]
  omega
/-- behind the first round each round misses the same -/
theorem misS_round (h : CoM bs ds ks) {t : Nat} (ht : bs.length ≤ t) : misS bs ds ks (t + bs.length) = misS bs ds ks t := by
  have z := misS_le h t
  have m0 : 0 ≤ misS bs ds ks (t + bs.length) := by unfold misS; omega
  by_cases hm : misS bs ds ks t ≤ 0
  · omega
  · obtain ⟨u, rfl⟩ : ∃ u, t = u + bs.length := ⟨t - bs.length, by omega⟩
    have e1 : dayS bs ds ks (u + bs.length + 1) = 0 := by
      show stp _ _ _ _ = 0
      have := h.kn ((u + bs.length) % bs.length)
      unfold misS dm bk at hm
      unfold stp
      omega
    have e2 := dayS_le h (u + 1)
    have e3 := dayS_nn h (u + 1)
    rw [show u + 1 + bs.length = u + bs.length + 1 by omega, e1] at e2
    have e4 : dayS bs ds ks (u + 1) = dayS bs ds ks (u + 1 + bs.length) := by rw [show u + 1 + bs.length = u + bs.length + 1 by omega, e1]; omega
    have hn := h.gd.n0
    have e5 := dayS_same e4 (bs.length - 1)
    rw [show u + 1 + (bs.length - 1) = u + bs.length by omega] at e5
    unfold misS dm bk
    rw [Nat.add_mod_right, ← e5]
theorem fm_get (h : CoM bs ds ks) {j : Nat} (hj : j < bs.length) : (fmOf bs ds ks).getD j 0 = misS bs ds ks j := by
  unfold fmOf missL
  have hl := h.gd.ld
  have e : ((List.range ds.length).map fun i => max 0 (ds.getD i 0 - (stkL bs ds ks (start1 (gainOf bs ds) (firstOf bs ds ks) (fullOf bs ds ks) 0)).getD i 0 - bs.getD i 0)).getD j 0 =
      max 0 (ds.getD j 0 - (stkL bs ds ks (start1 (gainOf bs ds) (firstOf bs ds ks) (fullOf bs ds ks) 0)).getD j 0 - bs.getD j 0) := by
    simp [List.getD, List.getElem?_range (show j < ds.length by omega)]
  rw [e, stkL_get (by omega)]
  have q := dayS_round h 0 j (by omega)
  rw [Nat.zero_mul, Nat.zero_add] at q
  have q' : stkAt bs ds ks (start1 (gainOf bs ds) (firstOf bs ds ks) (fullOf bs ds ks) 0) j = dayS bs ds ks j := q.symm
  rw [q']
  unfold misS dm bk
  rw [Nat.mod_eq_of_lt hj]
theorem lm_get (h : CoM bs ds ks) {j : Nat} (hj : j < bs.length) : (lmOf bs ds ks).getD j 0 = misS bs ds ks (bs.length + j) := by
  unfold lmOf missL
  have hl := h.gd.ld
  have e : ((List.range ds.length).map fun i => max 0 (ds.getD i 0 - (stkL bs ds ks (start1 (gainOf bs ds) (firstOf bs ds ks) (fullOf bs ds ks) 1)).getD i 0 - bs.getD i 0)).getD j 0 =
      max 0 (ds.getD j 0 - (stkL bs ds ks (start1 (gainOf bs ds) (firstOf bs ds ks) (fullOf bs ds ks) 1)).getD j 0 - bs.getD j 0) := by
    simp [List.getD, List.getElem?_range (show j < ds.length by omega)]
  rw [e, stkL_get (by omega)]
  have q := dayS_round h 1 j (by omega)
  rw [Nat.one_mul] at q
  have q' : stkAt bs ds ks (start1 (gainOf bs ds) (firstOf bs ds ks) (fullOf bs ds ks) 1) j = dayS bs ds ks (bs.length + j) := q.symm
  rw [q']
  unfold misS dm bk
  rw [Nat.add_mod_left, Nat.mod_eq_of_lt hj]
theorem fm_len (h : CoM bs ds ks) : (fmOf bs ds ks).length = bs.length := by unfold fmOf; rw [missL_len]; exact h.gd.ld
theorem lm_len (h : CoM bs ds ks) : (lmOf bs ds ks).length = bs.length := by unfold lmOf; rw [missL_len]; exact h.gd.ld
theorem lm_sum (h : CoM bs ds ks) : (lmOf bs ds ks).sum = psum (fun j => misS bs ds ks (bs.length + j)) bs.length := by
  rw [← psum_sum, lm_len h]
  exact psum_congr fun j hj => lm_get h hj
theorem missed_is (h : CoM bs ds ks) (t : Nat) : missedI bs (fmOf bs ds ks) (lmOf bs ds ks) (t : Int) = psum (misS bs ds ks) t := by
  have hn := h.gd.n0
  unfold missedI
  rw [Int.toNat_natCast, psum_take]
  by_cases ht : t ≤ bs.length
  · have e : max 0 ((t : Int) - (bs.length : Int)) = ((0 : Nat) : Int) := by omega
    rw [e, sumRep_psum _ (by rw [lm_len h]; exact hn)]
    show _ + 0 = _
    rw [Int.add_zero]
    exact psum_congr fun j hj => fm_get h (by omega)
  · obtain ⟨u, rfl⟩ : ∃ u, t = bs.length + u := ⟨t - bs.length, by omega⟩
    have e : max 0 (((bs.length + u : Nat) : Int) - (bs.length : Int)) = (u : Int) := by omega
    rw [e, sumRep_psum _ (by rw [lm_len h]; exact hn), psum_add, psum_add]
    have z1 : psum (fun j => (fmOf bs ds ks).getD j 0) bs.length = psum (misS bs ds ks) bs.length := psum_congr fun j hj => fm_get h hj
    have z2 : psum (fun j => (fmOf bs ds ks).getD (bs.length + j) 0) u = 0 := by
      have : psum (fun j => (fmOf bs ds ks).getD (bs.length + j) 0) u = psum (fun _ => 0) u := psum_congr fun j _ => by
        simp [List.getD, List.getElem?_eq_none (show (fmOf bs ds ks).length ≤ bs.length + j by rw [fm_len h]; omega)]
      rw [this, psum_zero]
    have z3 : psum (fun j => (lmOf bs ds ks).getD (j % (lmOf bs ds ks).length) 0) u = psum (fun j => misS bs ds ks (bs.length + j)) u := by
      refine psum_congr fun j _ => ?_
      rw [lm_len h, lm_get h (Nat.mod_lt _ hn)]
      have q : ∀ k r, misS bs ds ks (bs.length + (r + k * bs.length)) = misS bs ds ks (bs.length + r) := by
        intro k r
        induction k with
        | zero => simp
        | succ k ih =>
          rw [show bs.length + (r + (k + 1) * bs.length) = bs.length + (r + k * bs.length) + bs.length by rw [Nat.add_mul, Nat.one_mul]; omega, misS_round h (by omega), ih]
      have w := q (j / bs.length) (j % bs.length)
      rw [show j % bs.length + j / bs.length * bs.length = j by rw [Nat.mul_comm]; exact Nat.mod_add_div _ _] at w
      exact w.symm
    rw [z1, z2, z3]; omega
theorem bk_sum (h : CoM bs ds ks) (t : Nat) : sumRep bs (t : Int) = psum (bk bs) t := sumRep_psum bs h.gd.n0 t
theorem dm_sum (h : CoM bs ds ks) (t : Nat) : sumRep ds (t : Int) = psum (dm bs ds) t := by
  rw [sumRep_psum ds (by have := h.gd.n0; have := h.gd.ld; omega) t]
  exact psum_congr fun j _ => by unfold dm; rw [h.gd.ld]
theorem thr_sum (t : Nat) : psum (thrS bs ds ks) t = psum (bk bs) t - psum (solS bs ds ks) t - dayS bs ds ks t := by
  induction t with
  | zero => simp [psum, dayS]
  | succ t ih => show psum _ t + thrS bs ds ks t = (psum _ t + bk bs t) - (psum _ t + solS bs ds ks t) - _; rw [ih]; unfold thrS; omega
/-- totals are the sums of the days -/
theorem tot_is (h : CoM bs ds ks) (t : Nat) : totI bs ds ks (gainOf bs ds) (firstOf bs ds ks) (fullOf bs ds ks) (fmOf bs ds ks) (lmOf bs ds ks) (t : Int) =
    [psum (solS bs ds ks) t, psum (misS bs ds ks) t, psum (thrS bs ds ks) t] := by
  have e : psum (solS bs ds ks) t = psum (dm bs ds) t - psum (misS bs ds ks) t := psum_sub _ _ _
  unfold totI
  rw [missed_is h, dm_sum h, bk_sum h, stock_is h, thr_sum, e]
/-! ### the long run -/
theorem long_is (h : CoM bs ds ks) {D : Nat} (hD : ∀ t, D ≤ t → dayS bs ds ks t = dayS bs ds ks (t + bs.length)) :
    longI bs ds (lmOf bs ds ks) = [psum (fun j => solS bs ds ks (D + j)) bs.length, psum (fun j => misS bs ds ks (D + j)) bs.length, psum (fun j => thrS bs ds ks (D + j)) bs.length] := by
  have hmD : ∀ t, D ≤ t → misS bs ds ks (t + bs.length) = misS bs ds ks t := fun t ht => by
    unfold misS dm bk; rw [Nat.add_mod_right, ← hD t ht]
  have hmN : ∀ t, bs.length ≤ t → misS bs ds ks (t + bs.length) = misS bs ds ks t := fun t ht => misS_round h ht
  have m1 := window hmD bs.length
  have m2 := window hmN D
  rw [Nat.add_comm D] at m1
  have em : psum (fun j => misS bs ds ks (D + j)) bs.length = (lmOf bs ds ks).sum := by rw [lm_sum h, ← m1, ← m2]
  have hb : ∀ t, 0 ≤ t → bk bs (t + bs.length) = bk bs t := fun t _ => by unfold bk; rw [Nat.add_mod_right]
  have hd : ∀ t, 0 ≤ t → dm bs ds (t + bs.length) = dm bs ds t := fun t _ => by unfold dm; rw [Nat.add_mod_right]
  have b1 := window (n := bs.length) (a := 0) hb D
  have d1 := window (n := bs.length) (a := 0) hd D
  simp only [Nat.zero_add] at b1 d1
  have b2 : psum (fun j => bk bs j) bs.length = bs.sum := by rw [← psum_sum]; exact psum_congr fun j hj => by unfold bk; rw [Nat.mod_eq_of_lt hj]
  have d2 : psum (fun j => dm bs ds j) bs.length = ds.sum := by
    rw [← psum_sum, h.gd.ld]; exact psum_congr fun j hj => by unfold dm; rw [Nat.mod_eq_of_lt hj]
  have es : psum (fun j => solS bs ds ks (D + j)) bs.length = ds.sum - (lmOf bs ds ks).sum := by
    have : psum (fun j => solS bs ds ks (D + j)) bs.length = psum (fun j => dm bs ds (D + j)) bs.length - psum (fun j => misS bs ds ks (D + j)) bs.length := psum_sub _ _ _
    rw [this, em, d1, d2]
  have et : psum (fun j => thrS bs ds ks (D + j)) bs.length = bs.sum - (ds.sum - (lmOf bs ds ks).sum) := by
    have t1 := psum_add (thrS bs ds ks) D bs.length
    rw [thr_sum, thr_sum, psum_add, psum_add] at t1
    rw [← hD D (Nat.le_refl _), es, b1, b2] at t1
    omega
  unfold longI
  rw [em, es, et]
end
end Sw
namespace Sw
open PySem PySem.Spec PyProof.Rows L2 Evl
local macro_rules | `(tactic| walk_at "ev") => `(tactic| first
  | exact ev_c
  | exact ev_var rfl
  | ((with_reducible show Ev (tCB rMax2 _) _ _ _); exact ev_maxi (by walk_at "ev") (by walk_at "ev"))
  | ((with_reducible show Ev (tCB rMn _) _ _ _); exact ev_min2 (by walk_at "ev") (by walk_at "ev"))
  | ((with_reducible show Ev (tUn _ _) _ _ _); exact ev_un (by walk_at "ev") ru_neg)
  | ((with_reducible show Ev (tFld _ _ _) _ _ _); exact ev_fldK (by walk_at "ev") (by assumption))
  | ((with_reducible show Ev (tOp (rI0 _) _ _) _ _ _); exact ev_op (by walk_at "ev") (by walk_at "ev") rv_I0)
  | ((with_reducible show Ev (tOp rEq _ _) _ _ _); exact ev_op (by walk_at "ev") (by walk_at "ev") (rv_eq rfl))
  | ((with_reducible show Ev (tOp rNe _ _) _ _ _); exact ev_op (by walk_at "ev") (by walk_at "ev") (rv_ne rfl)))

section
variable {K : PySem.W.Frag} {σ : L2.St} {H H' : Hp} {ta tb te tx : TE} {x y z v : V} {a c : Addr} {xs : List V}
theorem ev_cval {C : Addr} {mc u : Value} {f : Str} (h : Ev ta σ H (.ref C)) (hc : ClX.CRead K C mc) (cv : ClX.CVal K C mc f v u) : Ev (ClX.tCVal K ta f) σ H v := fun H1 e Q q =>
  h H1 e _ fun H2 e2 => ⟨C, mc, v, u, rfl, hc, cv, q H2 e2⟩
def rTupS (K : PySem.W.Frag) : List V → Hp → VK → Prop := fun xs H Q => ∃ p ys, xs = [.ref p] ∧ ((SqL K H p ys ∧ ∀ l, H l = none → Q (.ref l) (upd H l (.tup ys))) ∨ (SqT K H p ys ∧ Q (.ref p) H))
theorem ev_tupT (h : Ev ta σ H (.ref a)) (hx : SqT K H a xs) : Ev (tCB (rTupS K) (tCons ta tNil)) σ H (.ref a) := fun H1 e Q q =>
  h H1 e _ fun H2 e2 => ⟨a, xs, rfl, .inr ⟨ex_t (e.trans e2) hx, q H2 e2⟩⟩
theorem eu_tupL (h : EvL ta σ H xs) : EvU (tCB (rTupS K) (tCons ta tNil)) σ H xs := fun H1 e Q q =>
  h H1 e _ fun p H2 _ e2 h2 => ⟨p, xs, rfl, .inl ⟨sq_of h2, fun l hl => q l _ (fresh_back e2 hl) (e2.trans (Ex.new hl)) upd_same⟩⟩
/-- what is handed back is some new object with P, seen apart from what M names -/
def EvR (te : TE) (σ : L2.St) (H : Hp) (M : Addr → Prop) (P : Addr → Hp → Prop) : Prop := ∀ H1, Ex H H1 → (∀ b, M b → H1 b ≠ none) → ∀ Q : VK, (∀ p H2, H1 p = none → Ex H1 H2 → P p (wn H2 M) → Q (.ref p) H2) → te σ H1 Q
end
theorem q_selfR {K : PySem.W.Frag} {σ : L2.St} {H : Hp} {ta te : TE} {a C dx : Addr} {fs : List (Str × V)} {f : Str} {D : Ends} {tz : TS} {M : Addr → Prop} {Pr : Addr → Hp → Prop} (ha : M a) (kn : ∀ b, M b → H b ≠ none) (h : EvR te σ H M Pr) (ho : ∀ H1, Ex H H1 → Ev ta σ H1 (.ref a)) (hx : H a = some (.ins C dx fs)) (c : Cls K C) (n : NoAttr K C f) (hl : fs.length < 1000)
    (hm : ∀ p H1 H2, Ex H1 H2 → Pr p H1 → Pr p H2)
    (k : ∀ (p : Addr) (S : Hp), Pr p (wn S M) → S a = some (.ins C dx (putF f (.ref p) fs)) → Go M a H S → tz D σ S) : tSeq (sFld K ta te f) tz D σ H :=
  h H (Ex.refl H) kn _ fun p H1 hp e1 hP => ho H1 e1 H1 (Ex.refl H1) _ fun H2 e2 => ⟨a, C, dx, fs, rfl, e2 _ _ (e1 _ _ hx), c, n, hl,
    k p _ (hm _ _ _ ((wn_mono e2).trans (wn_upd ha)) hP) upd_same (Go.up ha kn (e1.trans e2))⟩
/-! ### the checks, where nothing is wrong -/
variable {P : Program} {w : World} {K : PySem.W.Frag} {mg : Str → Option Value} {base : Heap} {Z : Ad}
def sp_num : Sp := fun vs H Q _ => ∃ n lo hi : Int, vs = [.int n, .int lo, .int hi] ∧ lo ≤ n ∧ n ≤ hi ∧ RetV .non H Q
theorem spv_num {H : Hp} {n lo hi : Int} (h1 : lo ≤ n) (h2 : n ≤ hi) : SpV sp_num [.int n, .int lo, .int hi] H .non := fun _ _ _ q _ => ⟨n, lo, hi, rfl, h1, h2, q⟩
theorem ok_check_number (T : Txt K mg Z) : FnOk P w K mg base CX0 1 Z.f_check_number Z.d_check_number p_check_number sp_num := by
  refine T.F_check_number.ok sc_check_number (fun vs H Q E h => ?_) (fun cdv Ar outer s H vs Q E hr h => ?_)
  · obtain ⟨n, lo, hi, rfl, _⟩ := h
    rfl
  · obtain ⟨n, lo, hi, rfl, h1, h2, k⟩ := h
    refine ⟨_, (pss_one (ps_if (PW.pt (pw_or (pt_cmpR op_lt (pv 0) (pv 1) (nomark _)) (pw_or1 (pt_cmpR op_gt (pv 0) (pv 2) (nomark _))))) (pss_one ps_no) pss_nil)), ?_⟩
    refine s_when (b := false) (et_is (et_or (et_test (by walk_at "ev")) fun _ => et_test (by walk_at "ev")) (by simp; omega)) (fun hb => nomatch hb) fun _ H1 e1 => k H1 e1
def sp_amounts (K : PySem.W.Frag) : Sp := fun vs H Q _ => ∃ (s : Str) (a : Addr) (am : List Int), vs = [.str s, .ref a] ∧ SqT K H a (am.map V.int) ∧ am.length ≤ 24 ∧ (∀ x ∈ am, 0 ≤ x ∧ x ≤ 1000000000) ∧ RetV .non H Q
theorem spv_amounts {H : Hp} {s : Str} {a : Addr} {am : List Int} (h : SqT K H a (am.map V.int)) (h1 : am.length ≤ 24) (h2 : ∀ x ∈ am, 0 ≤ x ∧ x ≤ 1000000000) : SpV (sp_amounts K) [.str s, .ref a] H .non := fun _ e _ q _ => ⟨s, a, am, rfl, ex_t e h, h1, h2, q⟩
theorem ok_check_amounts (T : Txt K mg Z) : FnOk P w K mg base CX0 1 Z.f_check_amounts Z.d_check_amounts p_check_amounts (sp_amounts K) := by
  refine T.F_check_amounts.ok sc_check_amounts (fun vs H Q E h => ?_) (fun cdv Ar outer s H vs Q E hr h => ?_)
  · obtain ⟨s, a, am, rfl, _⟩ := h
    rfl
  · obtain ⟨s, a, am, rfl, hS, hl, hb, k⟩ := h
    obtain ⟨cr, u, cv⟩ := T.cv_Bakery_MAX_DAYS
    refine ⟨_, (pss_one (ps_for PassesOwn.never rfl (pi_enumTK K rfl (by rfl) T.b_enumerate (pa_cons (pv 1) pa_nil)) (by exact (pg_tupK K (n := 2) rfl rfl (pgs_cons (pg_name (i := 2) sc_check_amounts.nd rfl (Or.inl rfl)) (pgs_cons (pg_name (i := 3) sc_check_amounts.nd rfl (Or.inl rfl)) pgs_nil)))) (pss_one (ps_if (PW.pt (pw_or (pt_cmpR op_eq (pv 2) (ClX.pe_cval (pe_glob (v := .ref Z.c_Bakery) (by rfl) T.g_Bakery rfl) rfl) (nomark _)) (pw_or (pt_cmpR op_lt (pv 3) pe_int (nomark _)) (pw_or1 (pt_cmpR op_gt (pv 3) (pe_glob (v := .int 1000000000) (by rfl) T.g_MOST_LOAVES ⟨_, rfl⟩) (nomark _)))))) (pss_one ps_no) pss_nil)))), ?_⟩
    refine s_forEnT (ea_cons (ev_var rfl) ea_nil) hS (fun i σ' H' => (∃ x y, σ' = [some (.str s), some (.ref a), x, y]) ∧ Ex H H') (fun H1 e1 => ⟨⟨_, _, rfl⟩, e1⟩) (fun i σ' H' _ p => p.2) ?_ ?_
    · rintro i x σ' H' hx ⟨⟨_, _, rfl⟩, e1⟩ H2 e2
      obtain ⟨rfl, hi⟩ := at_map hx
      have hb' := getD_mem0 (i := i) hb
      refine s_when (b := false) (et_is (et_or (et_test (ev_op (ev_var rfl) (ev_cval ev_c cr cv) (rv_eq rfl))) fun _ => et_or (et_test (by walk_at "ev")) fun _ => et_test (by walk_at "ev")) ?_) (fun hb => nomatch hb) fun _ H3 e3 => ⟨⟨_, _, rfl⟩, (e1.trans e2).trans e3⟩
      have q : ¬ (V.int (i : Nat) = V.int 24) := fun z => by injection z with z; omega
      generalize am.getD i 0 = v at hb'
      simp [q]; omega
    · rintro σ' H' ⟨⟨_, _, rfl⟩, e1⟩
      exact k H' e1
def sp_life1 : Sp := fun vs H Q _ => ∃ life : Int, vs = [.int life] ∧ 1 ≤ life ∧ life ≤ 30 ∧ RetV .non H Q
theorem spv_life {H : Hp} {life : Int} (l0 : 1 ≤ life) (l1 : life ≤ 30) : SpV sp_life1 [.int life] H .non := fun _ e _ q _ => ⟨life, rfl, l0, l1, q⟩
theorem ok_check_life (T : Txt K mg Z) : FnOk P w K mg base CX0 1 Z.f_check_life Z.d_check_life p_check_life sp_life1 := by
  refine T.F_check_life.ok sc_check_life (fun vs H Q E h => ?_) (fun cdv Ar outer s H vs Q E hr h => ?_)
  · obtain ⟨life, rfl, _⟩ := h
    rfl
  · obtain ⟨life, rfl, l0, l1, k⟩ := h
    obtain ⟨cr, u, cv⟩ := T.cv_Bakery_MAX_LIFE
    refine ⟨_, (pss_one (ps_if (PW.pt (pw_or (pt_cmpR op_lt (pv 0) pe_int (nomark _)) (pw_or1 (pt_cmpR op_gt (pv 0) (ClX.pe_cval (pe_glob (v := .ref Z.c_Bakery) (by rfl) T.g_Bakery rfl) rfl) (nomark _))))) (pss_one ps_no) pss_nil)), ?_⟩
    refine s_when (b := false) (et_is (et_or (et_test (by walk_at "ev")) fun _ => et_test (ev_op (ev_var rfl) (ev_cval ev_c cr cv) rv_I0)) (by simp; omega)) (fun hb => nomatch hb) fun _ H5 e5 => k H5 e5
def sp_check (K : PySem.W.Frag) : Sp := fun vs H Q _ => ∃ (a b : Addr) (bs ds : List Int) (life : Int), vs = [.ref a, .ref b, .int life] ∧ SqT K H a (bs.map V.int) ∧ SqT K H b (ds.map V.int) ∧ Good bs ds ∧ 1 ≤ life ∧ life ≤ 30 ∧ RetV .non H Q
theorem ok_check_bakery (T : Txt K mg Z) : FnOk P w K mg base CX0 2 Z.f_check_bakery Z.d_check_bakery p_check_bakery (sp_check K) := by
  refine T.F_check_bakery.ok sc_check_bakery (fun vs H Q E h => ?_) (fun cdv Ar outer s H vs Q E hr h => ?_)
  · obtain ⟨a, b, bs, ds, life, rfl, _⟩ := h
    rfl
  · obtain ⟨a, b, bs, ds, life, rfl, hB, hD, gd, l0, l1, k⟩ := h
    have h0 := gd.n0
    have hn := gd.n1
    have hld := gd.ld
    have e24 : ((bs.map V.int).length : Int) = (bs.length : Int) := by rw [List.length_map]
    have e24' : ((ds.map V.int).length : Int) = (ds.length : Int) := by rw [List.length_map]
    refine ⟨_, (pss_cons (ps_expr (pe_call (ok_check_amounts T) (hr.mono (by decide)) (by rfl) T.g_check_amounts T.F_check_amounts.kp T.b_check_amounts .nil pass0 (pa_cons pe_str (pa_cons (pv 0) pa_nil))))
      (pss_cons (ps_if (pt_cmpR op_eq (pe_callB (r := rLenS K) (call_len_seq) (by rfl) T.b_len boot_len (pa_cons (pv 0) pa_nil)) pe_int (nomark _)) (pss_one ps_no) pss_nil)
      (pss_cons (ps_expr (pe_call (ok_check_amounts T) (hr.mono (by decide)) (by rfl) T.g_check_amounts T.F_check_amounts.kp T.b_check_amounts .nil pass0 (pa_cons pe_str (pa_cons (pv 1) pa_nil))))
      (pss_cons (ps_if (pt_cmpR op_ne (pe_callB (r := rLenS K) (call_len_seq) (by rfl) T.b_len boot_len (pa_cons (pv 1) pa_nil)) (pe_callB (r := rLenS K) (call_len_seq) (by rfl) T.b_len boot_len (pa_cons (pv 0) pa_nil)) (nomark _)) (pss_one ps_no) pss_nil)
      (pss_one (ps_expr (pe_call (ok_check_life T) (hr.mono (by decide)) (by rfl) T.g_check_life T.F_check_life.kp T.b_check_life .nil pass0 (pa_cons (pv 2) pa_nil)))))))), ?_⟩
    refine q_drop (ev_call (ea_cons ev_c (ea_cons (ev_var rfl) ea_nil)) (spv_amounts hB (by omega) gd.b0)) fun H1 e1 => ?_
    refine q_when (b := false) (et_is (et_test (ev_op (Ev.int_eq (ev_lenT (ev_var rfl) (ex_t e1 hB)) e24) ev_c (rv_eq rfl))) ?_) (fun hb => nomatch hb) fun _ H2 e2 => ?_
    · have q : ¬ (V.int (bs.length : Int) = V.int 0) := fun z => by injection z with z; omega
      simp [q]
    refine q_drop (ev_call (ea_cons ev_c (ea_cons (ev_var rfl) ea_nil)) (spv_amounts (ex_t (e1.trans e2) hD) (by omega) gd.d0)) fun H3 e3 => ?_
    have eA := (e1.trans e2).trans e3
    refine q_when (b := false) (et_is (et_test (ev_op (Ev.int_eq (ev_lenT (ev_var rfl) (ex_t eA hD)) e24') (Ev.int_eq (ev_lenT (ev_var rfl) (ex_t eA hB)) e24) (rv_ne rfl))) ?_) (fun hb => nomatch hb) fun _ H4 e4 => ?_
    · have q : V.int (ds.length : Int) = V.int (bs.length : Int) := by rw [hld]
      simp [q]
    exact s_drop (ev_call (ea_cons (ev_var rfl) ea_nil) (spv_life l0 l1)) fun H5 e5 => k H5 ((eA.trans e4).trans e5)
/-! ### the bakery -/
def bakMeths : List Str := ["with_life", "baking_more", "stock", "sold", "missed", "thrown", "totals", "shelf", "MAX_LIFE"]
/-- a bakery -/
structure BakAt (K : PySem.W.Frag) (Z : Ad) (H : Hp) (b : Addr) (bs ds : List Int) (life : Int) (i : Nat) : Prop where
  fb : ∃ tb, FlK K H b Z.c_Bakery "_bakes" (.ref tb) ∧ SqT K H tb (bs.map V.int)
  fd : ∃ td, FlK K H b Z.c_Bakery "_demands" (.ref td) ∧ SqT K H td (ds.map V.int)
  fl : FlK K H b Z.c_Bakery "_life" (.int life)
  fc : ∃ c, FlK K H b Z.c_Bakery "course" (.ref c) ∧ CoAt K Z H c bs ds (keepL bs life)
  fs : FlK K H b Z.c_Bakery "_settled_day" (.int (grw bs ds (keepL bs life) * (bs.length : Int) + (i : Int)))
  fr : ∃ tl, FlK K H b Z.c_Bakery "_long_run" (.ref tl) ∧ SqT K H tl ((longI bs ds (lmOf bs ds (keepL bs life))).map V.int)
  gd : Good bs ds
  l0 : 1 ≤ life
  l1 : life ≤ 30
  hi : SetAt bs ds (keepL bs life) (gainOf bs ds) (firstOf bs ds (keepL bs life)) (fullOf bs ds (keepL bs life)) i
  nf : ∀ m : Str, m ∈ bakMeths → NoF H b Z.c_Bakery m
theorem BakAt.mono {H H' : Hp} {b : Addr} {bs ds : List Int} {life : Int} {i : Nat} (e : Ex H H') (h : BakAt K Z H b bs ds life i) : BakAt K Z H' b bs ds life i :=
  ⟨let ⟨a, x, y⟩ := h.fb; ⟨a, x.mono e, ex_t e y⟩, let ⟨a, x, y⟩ := h.fd; ⟨a, x.mono e, ex_t e y⟩, h.fl.mono e, let ⟨a, x, y⟩ := h.fc; ⟨a, x.mono e, CO.mono e y⟩, h.fs.mono e, let ⟨a, x, y⟩ := h.fr; ⟨a, x.mono e, ex_t e y⟩, h.gd, h.l0, h.l1, h.hi, fun m hm => (h.nf m hm).mono e⟩
theorem BakAt.com {H : Hp} {b : Addr} {bs ds : List Int} {life : Int} {i : Nat} (h : BakAt K Z H b bs ds life i) : CoM bs ds (keepL bs life) := ⟨h.gd, keepL_len, fun _ => keepL_nn h.gd.b0⟩
theorem BakAt.inst {H : Hp} {b : Addr} {bs ds : List Int} {life : Int} {i : Nat} (h : BakAt K Z H b bs ds life i) : ∃ dx fs, H b = some (.ins Z.c_Bakery dx fs) := let ⟨dx, fs, x, _⟩ := h.fl.fl; ⟨dx, fs, x⟩
/-- Course(..) -/
theorem er_course {σ : L2.St} {H : Hp} {M : Addr → Prop} {t : TA} {tb td : Addr} {bs ds : List Int} {life : Int} {E : XK} (ht : EvA t σ H [.ref tb, .ref td, .int life]) (hb : SqT K (wn H M) tb (bs.map V.int)) (hd : SqT K (wn H M) td (ds.map V.int)) (gd : Good bs ds) (l0 : 1 ≤ life) (l1 : life ≤ 30) :
    EvR (tMake Z.c_Course (sp_Cinit K Z) [] E t) σ H M (fun c H' => CoAt K Z H' c bs ds (keepL bs life)) := fun H1 e1 kn Q q => ht H1 e1 _ fun H2 e2 x dx hx hdx hne => by
  have eN : Ex H2 (upd (upd H2 dx (.own x)) x (.ins Z.c_Course dx [])) := fun b o hbo => by
    rw [upd_ne (ne_of_none hbo hx), upd_ne (ne_of_none hbo hdx)]; exact hbo
  have kn2 : ∀ b, M b → H2 b ≠ none := fun b hb z => kn b hb (fresh_back e2 z)
  refine ⟨x, dx, tb, td, bs, ds, life, M, rfl, upd_same, ex_t (wn_mono ((e1.trans e2).trans eN)) hb, ex_t (wn_mono ((e1.trans e2).trans eN)) hd, gd, l0, l1, fun b hb z => kn2 b hb (fresh_back eN z), fun z => kn2 x z hx, fun H3 hC k => ⟨rfl, ?_⟩⟩
  refine q x H3 (fresh_back e2 hx) (e2.trans fun b o hbo => k b o (eN b o hbo) (ne_of_none hbo hx)) hC
def sp_Binit (K : PySem.W.Frag) (Z : Ad) : Sp := fun vs H Q _ => ∃ (x dx tb td : Addr) (bs ds : List Int) (life : Int) (N : Addr → Prop), vs = [.ref x, .ref tb, .ref td, .int life] ∧ H x = some (.ins Z.c_Bakery dx []) ∧
  SqT K (wn H N) tb (bs.map V.int) ∧ SqT K (wn H N) td (ds.map V.int) ∧ Good bs ds ∧ 1 ≤ life ∧ life ≤ 30 ∧
  (∀ b, N b → H b ≠ none) ∧ ¬ N x ∧ ∀ H' i, BakAt K Z (wn H' N) x bs ds life i → (∀ b o, H b = some o → b ≠ x → H' b = some o) → Q .non H'
theorem er_bakery {σ : L2.St} {H : Hp} {M : Addr → Prop} {t : TA} {tb td : Addr} {bs ds : List Int} {life : Int} {E : XK} (ht : EvA t σ H [.ref tb, .ref td, .int life]) (hb : SqT K (wn H M) tb (bs.map V.int)) (hd : SqT K (wn H M) td (ds.map V.int)) (gd : Good bs ds) (l0 : 1 ≤ life) (l1 : life ≤ 30) :
    EvR (tMake Z.c_Bakery (sp_Binit K Z) [] E t) σ H M (fun c H' => ∃ i, BakAt K Z H' c bs ds life i) := fun H1 e1 kn Q q => ht H1 e1 _ fun H2 e2 x dx hx hdx hne => by
  have eN : Ex H2 (upd (upd H2 dx (.own x)) x (.ins Z.c_Bakery dx [])) := fun b o hbo => by
    rw [upd_ne (ne_of_none hbo hx), upd_ne (ne_of_none hbo hdx)]; exact hbo
  have kn2 : ∀ b, M b → H2 b ≠ none := fun b hb z => kn b hb (fresh_back e2 z)
  refine ⟨x, dx, tb, td, bs, ds, life, M, rfl, upd_same, ex_t (wn_mono ((e1.trans e2).trans eN)) hb, ex_t (wn_mono ((e1.trans e2).trans eN)) hd, gd, l0, l1, fun b hb z => kn2 b hb (fresh_back eN z), fun z => kn2 x z hx, fun H3 i hC k => ⟨rfl, ?_⟩⟩
  refine q x H3 (fresh_back e2 hx) (e2.trans fun b o hbo => k b o (eN b o hbo) (ne_of_none hbo hx)) ⟨i, hC⟩
theorem ok_Bakery___init__ (T : Txt K mg Z) : FnOk P w K mg base CX0 6 Z.f_Bakery___init__ Z.d_Bakery___init__ p_Bakery___init__ (sp_Binit K Z) := by
  refine T.F_Bakery___init__.ok sc_Bakery___init__ (fun vs H Q E h => ?_) (fun cdv Ar outer s H vs Q E hr h => ?_)
  · obtain ⟨x, dx, tb, td, bs, ds, life, N, rfl, _⟩ := h
    rfl
  · obtain ⟨x, dx, tb, td, bs, ds, life, N, rfl, hx, hb, hd, gd, l0, l1, hN, nNx, k⟩ := h
    have hM : nx x N x := .inl rfl
    have cl := T.cl_Bakery
    have cm : CoM bs ds (keepL bs life) := ⟨gd, keepL_len, fun _ => keepL_nn gd.b0⟩
    obtain ⟨i, hi⟩ := set_ex cm
    refine ⟨_, (pss_cons (ps_expr (pe_call (ok_check_bakery T) (hr.mono (by decide)) (by rfl) T.g_check_bakery T.F_check_bakery.kp T.b_check_bakery .nil pass0 (pa_cons (pv 1) (pa_cons (pv 2) (pa_cons (pv 3) pa_nil)))))
      (pss_cons (ps_fld (pv 0) (pe_callTy (r := rTupS K) (call_tuple_of) (by rfl) T.b_tuple boot_tuple (pa_cons (pv 1) pa_nil)) rfl)
      (pss_cons (ps_fld (pv 0) (pe_callTy (r := rTupS K) (call_tuple_of) (by rfl) T.b_tuple boot_tuple (pa_cons (pv 2) pa_nil)) rfl)
      (pss_cons (ps_fld (pv 0) (pv 3) rfl)
      (pss_cons (ps_fld (pv 0) (pe_make T.mk_Course (ok_Course___init__ T) (hr.mono (by decide)) (by rfl) T.g_Course T.b_Course___init__ .nil pass0 (pa_cons (pe_fldK K rfl (pv 0) rfl) (pa_cons (pe_fldK K rfl (pv 0) rfl) (pa_cons (pv 3) pa_nil)))) rfl)
      (pss_cons (ps_fld (pv 0) (pe_meth0 (pe_fldK K rfl (pv 0) rfl) T.cl_Course T.m_Course_find_settled (ok_Course_find_settled T) (hr.mono (by decide)) T.b_Course_find_settled .nil pass0) rfl)
      (pss_one (ps_fld (pv 0) (pe_meth0 (pe_fldK K rfl (pv 0) rfl) T.cl_Course T.m_Course_sum_settled_round (ok_Course_sum_settled_round T) (hr.mono (by decide)) T.b_Course_sum_settled_round .nil pass0) rfl)))))))), ?_⟩
    refine q_drop (ev_call (ea_cons (ev_var rfl) (ea_cons (ev_var rfl) (ea_cons (ev_var rfl) ea_nil))) (fun _ e _ q _ => ⟨tb, td, bs, ds, life, rfl, ex_t (wn_ex.trans e) hb, ex_t (wn_ex.trans e) hd, gd, l0, l1, q⟩)) fun H0 e0 => ?_
    have hbw : SqT K (wn H (nx x N)) tb (bs.map V.int) := wn_tx hx hb
    have hdw : SqT K (wn H (nx x N)) td (ds.map V.int) := wn_tx hx hd
    have w0 : Ex (wn H (nx x N)) (wn H0 (nx x N)) := wn_mono e0
    have kn0 : ∀ b, nx x N b → H0 b ≠ none := fun b z q => z.elim (fun e => by rw [e, e0 _ _ hx] at q; cases q) fun e => hN b e (fresh_back e0 q)
    refine q_self hM kn0 (ev_tupT (ev_var rfl) (ex_t (wn_ex.trans e0) hb)) (fun _ _ => ev_var rfl) (e0 _ _ hx) cl T.na_Bakery__bakes (by decide) fun S1 x1 g1 => ?_
    refine q_self hM g1.kn (ev_tupT (ev_var rfl) (ex_t ((w0.trans g1.ex).trans wn_ex) hdw)) (fun _ _ => ev_var rfl) x1 cl T.na_Bakery__demands (by show 1 < 1000; decide) fun S2 x2 g2 => ?_
    refine q_self hM g2.kn (ev_var rfl) (fun _ _ => ev_var rfl) x2 cl T.na_Bakery__life (by show 2 < 1000; decide) fun S3 x3 g3 => ?_
    have w03 := ((w0.trans g1.ex).trans g2.ex).trans g3.ex
    have fb3 := flk_of x3 cl T.na_Bakery__bakes (show _ = some (V.ref tb) from rfl)
    have fd3 := flk_of x3 cl T.na_Bakery__demands (show _ = some (V.ref td) from rfl)
    -- course
    refine q_selfR hM g3.kn (er_course (ea_cons (by walk_at "ev") (ea_cons (by walk_at "ev") (ea_cons (ev_var rfl) ea_nil))) (ex_t w03 hbw) (ex_t w03 hdw) gd l0 l1) (fun _ _ => ev_var rfl) x3 cl T.na_Bakery_course (by show 3 < 1000; decide)
      (fun p H1 H2 e hP => CO.mono e hP) fun c S4 c4 x4 g4 => ?_
    -- _settled_day
    have fc4 := flk_of x4 cl T.na_Bakery_course (show _ = some (V.ref c) from rfl)
    have fsr : ∀ {S : Hp}, CoAt K Z S c bs ds (keepL bs life) → SpV (sp_settled K Z) [.ref c] S (.int (grw bs ds (keepL bs life) * (bs.length : Int) + (i : Int))) := fun hC _ e _ q _ => by
      obtain ⟨tb', td', tk', s⟩ := hC.sr
      exact ⟨c, bs, ds, keepL bs life, tb', td', tk', _, _, _, i, rfl, ⟨s.mono e, (hC.nf _ (by decide)).mono e⟩, cm.gainb.1, hi, q⟩
    refine q_self hM g4.kn (ev_meth (by walk_at "ev") ((CO.mono wn_ex c4).nf _ (by decide)) ea_nil (fsr (CO.mono wn_ex c4))) (fun _ _ => ev_var rfl) x4 cl T.na_Bakery__settled_day (by show 4 < 1000; decide) fun S5 x5 g5 => ?_
    have fc5 := flk_of x5 cl T.na_Bakery_course (show _ = some (V.ref c) from rfl)
    have c5 : CoAt K Z (wn S5 (nx x N)) c bs ds (keepL bs life) := CO.mono g5.ex c4
    refine q_selfU hM g5.kn (xs := (longI bs ds (lmOf bs ds (keepL bs life))).map V.int) (eu_meth (by walk_at "ev") ((CO.mono wn_ex c5).nf _ (by decide)) ea_nil (fun _ e _ q _ => ⟨c, bs, ds, keepL bs life, _, _, _, _, _, rfl, CO.mono e (CO.mono wn_ex c5), q⟩)) (fun _ _ => ev_var rfl) x5 cl T.na_Bakery__long_run (by show 5 < 1000; decide) fun tl S6 hl6 x6 g6 => ?_
    have w06 := ((w03.trans g4.ex).trans g5.ex).trans g6.ex
    have sb : ∀ {S : Hp}, Ex (wn S (nx x N)) (wn S N) := wn_sub fun b z => .inr z
    have y6 : wn S6 N x = _ := (wn_ni nNx).trans x6
    refine k S6 i ⟨⟨tb, flk_of y6 cl T.na_Bakery__bakes rfl, ex_t (w06.trans sb) hbw⟩, ⟨td, flk_of y6 cl T.na_Bakery__demands rfl, ex_t (w06.trans sb) hdw⟩, flk_of y6 cl T.na_Bakery__life rfl, ⟨c, flk_of y6 cl T.na_Bakery_course rfl, CO.mono (g6.ex.trans sb) c5⟩,
      flk_of y6 cl T.na_Bakery__settled_day rfl, ⟨tl, flk_of y6 cl T.na_Bakery__long_run rfl, ex_t sb hl6⟩, gd, l0, l1, hi, ?_⟩ fun b o hbo hne => ?_
    · intro m hm
      refine ⟨_, _, y6, ?_⟩
      simp only [bakMeths, List.mem_cons, List.not_mem_nil, or_false] at hm
      rcases hm with rfl | rfl | rfl | rfl | rfl | rfl | rfl | rfl | rfl <;> rfl
    · exact g6.al b o (g5.al b o (g4.al b o (g3.al b o (g2.al b o (g1.al b o (e0 b o hbo) hne) hne) hne) hne) hne) hne
/-! ### a bakery's methods -/
theorem ev_prop {σ : L2.St} {H : Hp} {ta : TE} {C a : Addr} {sp : Sp} {E : XK} {z : V} (h : Ev ta σ H (.ref a)) (hi : ∃ dx fs, H a = some (.ins C dx fs)) (hs : SpV sp [.ref a] H z) : Ev (tProp C sp [] E ta) σ H z := fun H1 e Q q =>
  h H1 e _ fun H2 e2 => let ⟨dx, fs, h1⟩ := hi; ⟨a, dx, fs, rfl, e2 _ _ (e _ _ h1), hs H2 (e.trans e2) Q (fun H3 e3 => q H3 (e2.trans e3)) E⟩
def sp_Bset (K : PySem.W.Frag) (Z : Ad) : Sp := fun vs H Q _ => ∃ (b : Addr) (bs ds : List Int) (life : Int) (i : Nat), vs = [.ref b] ∧ BakAt K Z H b bs ds life i ∧ RetV (.int (grw bs ds (keepL bs life) * (bs.length : Int) + (i : Int))) H Q
theorem ok_Bakery_settled_day (T : Txt K mg Z) : FnOk P w K mg base CX0 1 Z.f_Bakery_settled_day Z.d_Bakery_settled_day p_Bakery_settled_day (sp_Bset K Z) := by
  refine T.F_Bakery_settled_day.ok sc_Bakery_settled_day (fun vs H Q E h => ?_) (fun cdv Ar outer s H vs Q E hr h => ?_)
  · obtain ⟨b, bs, ds, life, i, rfl, _⟩ := h
    rfl
  · obtain ⟨b, bs, ds, life, i, rfl, hB, k⟩ := h
    have fs := hB.fs
    refine ⟨_, (pss_one (ps_ret (pe_fldK K rfl (pv 0) rfl))), ?_⟩
    exact s_ret (by walk_at "ev") fun H1 e1 => k H1 e1
def sp_Blong (K : PySem.W.Frag) (Z : Ad) : Sp := fun vs H Q _ => ∃ (b : Addr) (bs ds : List Int) (life : Int) (i : Nat), vs = [.ref b] ∧ BakAt K Z H b bs ds life i ∧ ∀ p H', Ex H H' → SqT K H' p ((longI bs ds (lmOf bs ds (keepL bs life))).map V.int) → Q (.ref p) H'
theorem ok_Bakery_long_run (T : Txt K mg Z) : FnOk P w K mg base CX0 1 Z.f_Bakery_long_run Z.d_Bakery_long_run p_Bakery_long_run (sp_Blong K Z) := by
  refine T.F_Bakery_long_run.ok sc_Bakery_long_run (fun vs H Q E h => ?_) (fun cdv Ar outer s H vs Q E hr h => ?_)
  · obtain ⟨b, bs, ds, life, i, rfl, _⟩ := h
    rfl
  · obtain ⟨b, bs, ds, life, i, rfl, hB, k⟩ := h
    obtain ⟨tl, fl, hl⟩ := hB.fr
    refine ⟨_, (pss_one (ps_ret (pe_fldK K rfl (pv 0) rfl))), ?_⟩
    exact s_ret (by walk_at "ev") fun H1 e1 => k tl H1 e1 (ex_t e1 hl)
def sp_Bstock (K : PySem.W.Frag) (Z : Ad) : Sp := fun vs H Q _ => ∃ (b : Addr) (bs ds : List Int) (life : Int) (i : Nat) (t : Nat), vs = [.ref b, .int (t : Int)] ∧ (t : Int) ≤ 1000000000000000000 ∧ BakAt K Z H b bs ds life i ∧ RetV (.int (dayS bs ds (keepL bs life) t)) H Q
theorem ok_Bakery_stock (T : Txt K mg Z) : FnOk P w K mg base CX0 4 Z.f_Bakery_stock Z.d_Bakery_stock p_Bakery_stock (sp_Bstock K Z) := by
  refine T.F_Bakery_stock.ok sc_Bakery_stock (fun vs H Q E h => ?_) (fun cdv Ar outer s H vs Q E hr h => ?_)
  · obtain ⟨b, bs, ds, life, i, t, rfl, _⟩ := h
    rfl
  · obtain ⟨b, bs, ds, life, i, t, rfl, ht, hB, k⟩ := h
    refine ⟨_, (pss_cons (ps_expr (pe_call (ok_check_number T) (hr.mono (by decide)) (by rfl) T.g_check_number T.F_check_number.kp T.b_check_number .nil pass0 (pa_cons (pv 1) (pa_cons pe_int (pa_cons (pe_glob (v := .int 1000000000000000000) (by rfl) T.g_LAST_DAY ⟨_, rfl⟩) pa_nil)))))
      (pss_one (ps_ret (pe_meth (pe_fldK K rfl (pv 0) rfl) T.cl_Course T.m_Course_stock_at (ok_Course_stock_at T) (hr.mono (by decide)) T.b_Course_stock_at .nil pass0 (pa_cons (pv 1) pa_nil))))), ?_⟩
    refine q_drop (ev_call (ea_cons (ev_var rfl) (ea_cons ev_c (ea_cons ev_c ea_nil))) (spv_num (by omega) ht)) fun H1 e1 => ?_
    obtain ⟨c, fc, hC⟩ := (hB.mono e1).fc
    obtain ⟨tb, td, tk, s⟩ := hC.sr
    refine s_ret (ev_is (ev_meth (by walk_at "ev") (hC.nf _ (by decide)) (ea_cons (ev_var rfl) ea_nil) (spv_stock_at s)) ?_) fun H2 e2 => k H2 (e1.trans e2)
    rw [stock_is hB.com]
def sp_Bday (K : PySem.W.Frag) (Z : Ad) (j : Nat) : Sp := fun vs H Q _ => ∃ (b : Addr) (bs ds : List Int) (life : Int) (i : Nat) (t : Nat), vs = [.ref b, .int (t : Int)] ∧ (t : Int) ≤ 1000000000000000000 ∧ BakAt K Z H b bs ds life i ∧ RetV (.int ([solS bs ds (keepL bs life) t, misS bs ds (keepL bs life) t, thrS bs ds (keepL bs life) t].getD j 0)) H Q
theorem ok_Bakery_missed (T : Txt K mg Z) : FnOk P w K mg base CX0 4 Z.f_Bakery_missed Z.d_Bakery_missed p_Bakery_missed (sp_Bday K Z 1) := by
  refine T.F_Bakery_missed.ok sc_Bakery_missed (fun vs H Q E h => ?_) (fun cdv Ar outer s H vs Q E hr h => ?_)
  · obtain ⟨b, bs, ds, life, i, t, rfl, _⟩ := h
    rfl
  · obtain ⟨b, bs, ds, life, i, t, rfl, ht, hB, k⟩ := h
    refine ⟨_, (pss_cons (ps_expr (pe_call (ok_check_number T) (hr.mono (by decide)) (by rfl) T.g_check_number T.F_check_number.kp T.b_check_number .nil pass0 (pa_cons (pv 1) (pa_cons pe_int (pa_cons (pe_glob (v := .int 1000000000000000000) (by rfl) T.g_LAST_DAY ⟨_, rfl⟩) pa_nil)))))
      (pss_one (ps_ret (pe_ix (r := rIxT K) ix_tup (pe_meth (pe_fldK K rfl (pv 0) rfl) T.cl_Course T.m_Course_sales_on (ok_Course_sales_on T) (hr.mono (by decide)) T.b_Course_sales_on .nil pass0 (pa_cons (pv 1) pa_nil)) pe_int (fun _ _ => rfl))))), ?_⟩
    refine q_drop (ev_call (ea_cons (ev_var rfl) (ea_cons ev_c (ea_cons ev_c ea_nil))) (spv_num (by omega) ht)) fun H1 e1 => ?_
    obtain ⟨c, fc, hC⟩ := (hB.mono e1).fc
    obtain ⟨tb, td, tk, s⟩ := hC.sr
    have hs : salesI bs ds (keepL bs life) (gainOf bs ds) (firstOf bs ds (keepL bs life)) (fullOf bs ds (keepL bs life)) (t : Int) = _ := sales_is hB.com t
    refine s_ret (ev_ixNU (i := 1) (v := .int (misS bs ds (keepL bs life) t)) (eu_meth (by walk_at "ev") (hC.nf _ (by decide)) (ea_cons (ev_var rfl) ea_nil) (spu_sales_on s)) ev_c (by rw [hs]; rfl)) fun H2 e2 => k H2 (e1.trans e2)
def totS (bs ds ks : List Int) (t : Nat) : List Int := [psum (solS bs ds ks) t, psum (misS bs ds ks) t, psum (thrS bs ds ks) t]
def sp_Btot (K : PySem.W.Frag) (Z : Ad) : Sp := fun vs H Q _ => ∃ (b : Addr) (bs ds : List Int) (life : Int) (i : Nat) (t : Nat), vs = [.ref b, .int (t : Int)] ∧ (t : Int) ≤ 1000000000000000000 ∧ BakAt K Z H b bs ds life i ∧ RetU ((totS bs ds (keepL bs life) t).map V.int) H Q
theorem ok_Bakery_totals (T : Txt K mg Z) : FnOk P w K mg base CX0 5 Z.f_Bakery_totals Z.d_Bakery_totals p_Bakery_totals (sp_Btot K Z) := by
  refine T.F_Bakery_totals.ok sc_Bakery_totals (fun vs H Q E h => ?_) (fun cdv Ar outer s H vs Q E hr h => ?_)
  · obtain ⟨b, bs, ds, life, i, t, rfl, _⟩ := h
    rfl
  · obtain ⟨b, bs, ds, life, i, t, rfl, ht, hB, k⟩ := h
    refine ⟨_, (pss_cons (ps_expr (pe_call (ok_check_number T) (hr.mono (by decide)) (by rfl) T.g_check_number T.F_check_number.kp T.b_check_number .nil pass0 (pa_cons (pv 1) (pa_cons pe_int (pa_cons (pe_glob (v := .int 1000000000000000000) (by rfl) T.g_LAST_DAY ⟨_, rfl⟩) pa_nil)))))
      (pss_one (ps_ret (pe_meth (pe_fldK K rfl (pv 0) rfl) T.cl_Course T.m_Course_sales_before (ok_Course_sales_before T) (hr.mono (by decide)) T.b_Course_sales_before .nil pass0 (pa_cons (pv 1) pa_nil))))), ?_⟩
    refine q_drop (ev_call (ea_cons (ev_var rfl) (ea_cons ev_c (ea_cons ev_c ea_nil))) (spv_num (by omega) ht)) fun H1 e1 => ?_
    obtain ⟨c, fc, hC⟩ := (hB.mono e1).fc
    refine s_retU (xs := (totS bs ds (keepL bs life) t).map V.int) (eu_meth (by walk_at "ev") (hC.nf _ (by decide)) (ea_cons (ev_var rfl) ea_nil) (fun _ e _ q _ => ?_)) fun p H2 hp e2 h2 => k p H2 (fresh_back e1 hp) (e1.trans e2) h2
    refine ⟨c, bs, ds, keepL bs life, _, _, _, _, _, (t : Int), rfl, by omega, CO.mono e hC, ?_⟩
    rw [tot_is hB.com]
    exact q
end Sw
namespace Sw
section
variable {bs ds ks : List Int}
theorem tot_long (h : CoM bs ds ks) {a : Nat} (hD : ∀ t, a ≤ t → dayS bs ds ks t = dayS bs ds ks (t + bs.length)) (T j : Nat) :
    (totS bs ds ks (a + T * bs.length)).getD j 0 = (totS bs ds ks a).getD j 0 + (T : Int) * (longI bs ds (lmOf bs ds ks)).getD j 0 := by
  have hm : ∀ t, a ≤ t → misS bs ds ks (t + bs.length) = misS bs ds ks t := fun t ht => by unfold misS dm bk; rw [Nat.add_mod_right, ← hD t ht]
  have hs : ∀ t, a ≤ t → solS bs ds ks (t + bs.length) = solS bs ds ks t := fun t ht => by unfold solS; rw [hm t ht]; unfold dm; rw [Nat.add_mod_right]
  have ht : ∀ t, a ≤ t → thrS bs ds ks (t + bs.length) = thrS bs ds ks t := fun t ht => by
    unfold thrS
    rw [hs t ht, ← hD t ht, show t + bs.length + 1 = t + 1 + bs.length by omega, ← hD (t + 1) (by omega)]
    unfold bk; rw [Nat.add_mod_right]
  rw [long_is h hD]
  unfold totS
  rw [rounds_psum hs T, rounds_psum hm T, rounds_psum ht T]
  match j with
  | 0 => rfl
  | 1 => rfl
  | 2 => rfl
  | j + 3 => simp [List.getD]
theorem stkAt_top {bs ds ks : List Int} {s : Int} {i : Nat} : stkAt bs ds ks s (i + 1) ≤ ks.getD i 0 := by
  show stp _ _ _ _ ≤ _
  unfold stp; omega
theorem keepAt_le {life : Int} {i : Nat} (h : ∀ x ∈ bs, 0 ≤ x ∧ x ≤ 1000000000) (l0 : 1 ≤ life) (l1 : life ≤ 30) : keepAt bs life i ≤ 29000000000 := by
  unfold keepAt
  have z := sum_bound (xs := (List.range (life - 1).toNat).map fun (age : Nat) => bs.getD ((((i : Int) - (age : Int)) % (bs.length : Int)).toNat) 0) (M := 1000000000) (by omega) (fun x hx => by
    obtain ⟨j, _, rfl⟩ := List.mem_map.mp hx
    exact getD_mem0 h)
  rw [List.length_map, List.length_range] at z
  have : ((life - 1).toNat : Int) * 1000000000 ≤ 29 * 1000000000 := Int.mul_le_mul_of_nonneg_right (by omega) (by omega)
  omega
theorem full_small {life : Int} (h : CoM bs ds (keepL bs life)) (l0 : 1 ≤ life) (l1 : life ≤ 30) : fullOf bs ds (keepL bs life) ≤ 29000000000 := by
  unfold fullOf
  obtain ⟨m, hm⟩ : ∃ m, bs.length = m + 1 := ⟨bs.length - 1, by have := h.gd.n0; omega⟩
  rw [hm]
  have z := stkAt_top (bs := bs) (ds := ds) (ks := keepL bs life) (s := (keepL bs life).getD 0 0 + ds.getD 0 0) (i := m)
  have e : (keepL bs life).getD m 0 = keepAt bs life m := by
    unfold keepL
    simp [List.getD, List.getElem?_range (show m < bs.length by omega)]
  have q := keepAt_le (i := m) h.gd.b0 l0 l1
  omega
theorem settled_small {life : Int} (h : CoM bs ds (keepL bs life)) (l0 : 1 ≤ life) (l1 : life ≤ 30) {i : Nat} (hi : SetAt bs ds (keepL bs life) (gainOf bs ds) (firstOf bs ds (keepL bs life)) (fullOf bs ds (keepL bs life)) i) :
    0 ≤ grw bs ds (keepL bs life) * (bs.length : Int) + (i : Int) ∧ grw bs ds (keepL bs life) * (bs.length : Int) + (i : Int) ≤ 1000000000000 := by
  have g0 := grw_nn h
  have f1 := full_small h l0 l1
  have f0 := h.first
  have fl := first_le h
  have n1 := h.gd.n1
  have hg := h.gainb.1
  have gs : grw bs ds (keepL bs life) ≤ 29000000000 := by
    by_cases z : gainOf bs ds = 0
    · have : grw bs ds (keepL bs life) = 0 := by unfold grw growing; rw [if_pos z]
      omega
    · have e : grw bs ds (keepL bs life) = -((firstOf bs ds (keepL bs life) - fullOf bs ds (keepL bs life)) / gainOf bs ds) := by unfold grw growing; rw [if_neg z]
      have q1 := Int.lt_ediv_add_one_mul_self (firstOf bs ds (keepL bs life) - fullOf bs ds (keepL bs life)) (show 0 < gainOf bs ds by omega)
      have q2 : (firstOf bs ds (keepL bs life) - fullOf bs ds (keepL bs life)) / gainOf bs ds ≥ firstOf bs ds (keepL bs life) - fullOf bs ds (keepL bs life) := by
        by_cases w : (firstOf bs ds (keepL bs life) - fullOf bs ds (keepL bs life)) / gainOf bs ds < firstOf bs ds (keepL bs life) - fullOf bs ds (keepL bs life)
        · exfalso
          have w1 : (firstOf bs ds (keepL bs life) - fullOf bs ds (keepL bs life)) / gainOf bs ds + 1 ≤ firstOf bs ds (keepL bs life) - fullOf bs ds (keepL bs life) := by omega
          have w2 : ((firstOf bs ds (keepL bs life) - fullOf bs ds (keepL bs life)) / gainOf bs ds + 1) * gainOf bs ds ≤ (firstOf bs ds (keepL bs life) - fullOf bs ds (keepL bs life)) * gainOf bs ds := Int.mul_le_mul_of_nonneg_right w1 hg
          have w3 : (firstOf bs ds (keepL bs life) - fullOf bs ds (keepL bs life)) * gainOf bs ds ≤ (firstOf bs ds (keepL bs life) - fullOf bs ds (keepL bs life)) * 1 := Int.mul_le_mul_of_nonpos_left (by omega) (by omega)
          omega
        · omega
      omega
  have n0 : 0 ≤ grw bs ds (keepL bs life) * (bs.length : Int) := Int.mul_nonneg g0 (by omega)
  have n2 : grw bs ds (keepL bs life) * (bs.length : Int) ≤ 29000000000 * 24 := by
    have w1 : grw bs ds (keepL bs life) * (bs.length : Int) ≤ grw bs ds (keepL bs life) * 24 := Int.mul_le_mul_of_nonneg_left (by omega) g0
    omega
  have := hi.1
  omega
end
end Sw
namespace Sw
open PySem PySem.Spec PyProof.Rows L2 Evl
local macro_rules | `(tactic| walk_at "ev") => `(tactic| first
  | exact ev_c
  | exact ev_var rfl
  | ((with_reducible show Ev (tCB rMax2 _) _ _ _); exact ev_maxi (by walk_at "ev") (by walk_at "ev"))
  | ((with_reducible show Ev (tCB rMn _) _ _ _); exact ev_min2 (by walk_at "ev") (by walk_at "ev"))
  | ((with_reducible show Ev (tUn _ _) _ _ _); exact ev_un (by walk_at "ev") ru_neg)
  | ((with_reducible show Ev (tFld _ _ _) _ _ _); exact ev_fldK (by walk_at "ev") (by assumption))
  | ((with_reducible show Ev (tOp (rI0 _) _ _) _ _ _); exact ev_op (by walk_at "ev") (by walk_at "ev") rv_I0)
  | ((with_reducible show Ev (tOp rEq _ _) _ _ _); exact ev_op (by walk_at "ev") (by walk_at "ev") (rv_eq rfl))
  | ((with_reducible show Ev (tOp rNe _ _) _ _ _); exact ev_op (by walk_at "ev") (by walk_at "ev") (rv_ne rfl)))

/-! ### the law's draws: a list of a number, a list of cells, an index -/
def HS (H : Hp) (h l : Addr) : Prop := ∃ (m : Int) (cells : List Int) (idx : Int), H h = some (.lst [.int m, .ref l, .int idx]) ∧ H l = some (.lst (cells.map V.int)) ∧ 0 ≤ m ∧ m < 2147483647 ∧ 0 ≤ idx ∧ cells.length ≤ 63
def hl (h l : Addr) : Addr → Prop := fun b => b = h ∨ b = l
theorem HS.ne {H : Hp} {h l : Addr} (q : HS H h l) : l ≠ h := by
  obtain ⟨m, cells, idx, h1, h2, _⟩ := q
  intro e
  rw [e, h1] at h2
  have z := HO.lst.inj (Option.some.inj h2)
  cases cells with
  | nil => cases z
  | cons a r =>
    cases r with
    | nil => cases z
    | cons b r =>
      injection z with _ z
      injection z with z _
      cases z
theorem HS.mono {H H' : Hp} {h l : Addr} (e : Ex H H') (q : HS H h l) : HS H' h l :=
  let ⟨m, cells, idx, h1, h2, r⟩ := q; ⟨m, cells, idx, e _ _ h1, e _ _ h2, r⟩
theorem HS.kn {H : Hp} {h l : Addr} (q : HS H h l) : ∀ b, hl h l b → H b ≠ none := by
  obtain ⟨m, cells, idx, h1, h2, _⟩ := q
  rintro b (rfl | rfl) z
  · rw [h1] at z; cases z
  · rw [h2] at z; cases z
/-- a draw may change h and l, and makes what it likes -/
structure Dr (h l : Addr) (H H' : Hp) : Prop where
  hs : HS H' h l
  ex : Ex (wn H (hl h l)) (wn H' (hl h l))
theorem Dr.trans {h l : Addr} {H H1 H2 : Hp} (a : Dr h l H H1) (b : Dr h l H1 H2) : Dr h l H H2 := ⟨b.hs, a.ex.trans b.ex⟩
theorem Dr.refl {h l : Addr} {H : Hp} (q : HS H h l) : Dr h l H H := ⟨q, Ex.refl _⟩
theorem Dr.of {h l : Addr} {H H' : Hp} (q : HS H h l) (e : Ex H H') : Dr h l H H' := ⟨q.mono e, wn_mono e⟩
def sp_next : Sp := fun vs H Q _ => ∃ (h l : Addr) (limit : Int), vs = [.ref h, .int limit] ∧ 0 < limit ∧ limit ≤ 1000000000000000000 ∧ HS H h l ∧ ∀ v H', 0 ≤ v → v < limit → Dr h l H H' → Q (.int v) H'
section
variable {K : PySem.W.Frag} {σ : L2.St} {H H' : Hp} {ta tb te tx : TE} {x y z v : V} {a h l : Addr} {xs ys : List V}
theorem el_cat (ha : Ev ta σ H (.ref a)) (hx : H a = some (.lst xs)) (hb : EvL tb σ H ys) (hz : xs.length + ys.length ≤ 100000) : EvL (tOp rCat ta tb) σ H (xs ++ ys) := fun H1 e Q q =>
  ha H1 e _ fun H2 e2 => hb H2 (e.trans e2) _ fun p H3 _ e3 hp => ⟨a, p, xs, ys, rfl, rfl, e3 _ _ (e2 _ _ (e _ _ hx)), hp, sz_of hz, fun r hr => q r _ (fresh_back (e2.trans e3) hr) ((e2.trans e3).trans (Ex.new hr)) upd_same⟩
theorem Dr.upd {o : HO} (hN : hl h l a) (q : HS (L2.upd H a o) h l) : Dr h l H (L2.upd H a o) := ⟨q, wn_upd hN⟩
end
variable {P : Program} {w : World} {K : PySem.W.Frag} {mg : Str → Option Value} {base : Heap} {Z : Ad}
theorem ok__law_next (T : Txt K mg Z) : FnOk P w K mg base CX0 1 Z.f__law_next Z.d__law_next p__law_next sp_next := by
  refine T.F__law_next.ok sc__law_next (fun vs H Q E h => ?_) (fun cdv Ar outer s H vs Q E hr h => ?_)
  · obtain ⟨a, l, limit, rfl, _⟩ := h
    rfl
  · obtain ⟨a, l, limit, rfl, p0, p1, hs, k⟩ := h
    obtain ⟨m, cells, idx, h1, h2, m0, m1, i0, c0⟩ := id hs
    have nla := hs.ne
    have hlen : (((cells.map V.int).length : Nat) : Int) = (cells.length : Int) := by rw [List.length_map]
    have q0 : 0 ≤ idx % max 1 (cells.length : Int) := Int.emod_nonneg _ (by omega)
    have q1 : idx % max 1 (cells.length : Int) < max 1 (cells.length : Int) := Int.emod_lt_of_pos _ (by omega)
    have p10 : (10 : Int) ^ (18 : Int).toNat = 1000000000000000000 := by decide
    have ix1 : ∀ {σ : L2.St} {G : Hp} {te : TE}, Ev te σ G (.ref a) → G a = some (.lst [.int m, .ref l, .int idx]) → Ev (tOp (rIxL K) te (tC (.int 1))) σ G (.ref l) := fun he hg => ev_ixL he (sq_of hg) ev_c rfl
    have ix2 : ∀ {σ : L2.St} {G : Hp} {te : TE} {m' : Int}, Ev te σ G (.ref a) → G a = some (.lst [.int m', .ref l, .int idx]) → Ev (tOp (rIxL K) te (tC (.int 2))) σ G (.int idx) := fun he hg => ev_ixL he (sq_of hg) ev_c rfl
    refine ⟨_, (pss_cons (ps_set (i := 2) sc__law_next.nd rfl (Or.inl rfl) (pe_ix (r := rIxL K) ix_list (pe_op op_cat (pe_ix (r := rIxL K) ix_list (pv 0) pe_int (fun _ _ => rfl)) (pe_lst (pa_cons pe_int pa_nil))) (pe_op op_mod (pe_ix (r := rIxL K) ix_list (pv 0) pe_int (fun _ _ => rfl)) (pe_callB (r := rMax2) (call_max2 rfl) (by rfl) T.b_max boot_max (pa_cons pe_int (pa_cons (pe_callB (r := rLenS K) (call_len_seq) (by rfl) T.b_len boot_len (pa_cons (pe_ix (r := rIxL K) ix_list (pv 0) pe_int (fun _ _ => rfl)) pa_nil)) pa_nil)))) (fun _ _ => rfl)))
      (pss_cons (ps_if (pt_cmpR op_ge (pv 2) (pe_op op_pow pe_int pe_int) (nomark _)) (pss_cons (ps_asg (pe_op op_fdivW (pv 2) (pv 1)) (pg_sub (pe_ix (r := rIxL K) ix_list (pv 0) pe_int (fun _ _ => rfl)) (pe_op op_mod (pe_ix (r := rIxL K) ix_list (pv 0) pe_int (fun _ _ => rfl)) (pe_callB (r := rLenS K) (call_len_seq) (by rfl) T.b_len boot_len (pa_cons (pe_ix (r := rIxL K) ix_list (pv 0) pe_int (fun _ _ => rfl)) pa_nil))) set_list))
      (pss_one (ps_ret (pe_op op_mod (pv 2) (pv 1))))) pss_nil)
      (pss_cons (ps_asg (pe_op op_mod (pe_op op_add (pe_op op_add (pe_op op_mul (pe_ix (r := rIxL K) ix_list (pv 0) pe_int (fun _ _ => rfl)) pe_int) (pe_op op_mul (pv 2) pe_int)) pe_int) pe_int) (pg_sub (pv 0) pe_int set_list))
      (pss_cons (ps_asg (pe_op op_add (pe_ix (r := rIxL K) ix_list (pv 0) pe_int (fun _ _ => rfl)) pe_int) (pg_sub (pv 0) pe_int set_list))
      (pss_one (ps_ret (pe_op op_mod (pe_op op_fdivW (pe_ix (r := rIxL K) ix_list (pv 0) pe_int (fun _ _ => rfl)) pe_int) (pv 1)))))))), ?_⟩
    refine q_asg (v := .int ((cells ++ [0]).getD (idx % max 1 (cells.length : Int)).toNat 0)) (ev_ixNL (xs := (cells ++ [0]).map V.int) ?_ (ev_op (ix2 (ev_var rfl) h1) (ev_maxi ev_c (Ev.int_eq (ev_len (ix1 (ev_var rfl) h1) (sq_of h2)) hlen)) (rv_I (by show (0 : Int) < _; omega))) (atI_mapI q0 (by rw [List.length_append, List.length_singleton]; omega))) fun H1 e1 => ?_
    · rw [List.map_append]
      exact el_cat (ix1 (ev_var rfl) h1) h2 (el_lst (ea_cons ev_c ea_nil) (by show 1 ≤ 100000; decide)) (by rw [List.length_map]; show _ + 1 ≤ _; omega)
    generalize hcell : (cells ++ [0]).getD (idx % max 1 (cells.length : Int)).toNat 0 = cell
    have a1 := e1 _ _ h1
    have a2 := e1 _ _ h2
    refine q_when (b := decide ((1000000000000000000 : Int) ≤ cell)) (et_test (ev_is (ev_op (ev_var rfl) (Ev.int_eq (ev_op ev_c ev_c (rv_I ⟨by decide, by decide, by decide⟩)) p10) rv_I0) rfl)) (fun hb H2 e2 => ?_) (fun hb H2 e2 => ?_)
    · have hge : (1000000000000000000 : Int) ≤ cell := by simpa using hb
      have hc0 : 0 < cells.length := by
        rcases Nat.eq_zero_or_pos cells.length with z | z
        · exfalso
          have e0 : cells = [] := List.length_eq_zero_iff.mp z
          subst e0
          have z1 : max (1 : Int) ((([] : List Int).length : Nat) : Int) = 1 := by decide
          rw [z1, Int.emod_one] at hcell
          have z2 : (([] : List Int) ++ [0]).getD (0 : Int).toNat 0 = 0 := by decide
          rw [z2] at hcell
          omega
        · exact z
      have r0 : 0 ≤ idx % (cells.length : Int) := Int.emod_nonneg _ (by omega)
      have r1 : idx % (cells.length : Int) < (cells.length : Int) := Int.emod_lt_of_pos _ (by omega)
      obtain ⟨j, hj⟩ : ∃ j : Nat, idx % (cells.length : Int) = (j : Int) := ⟨(idx % (cells.length : Int)).toNat, by omega⟩
      have b1 := e2 _ _ a1
      have b2 := e2 _ _ a2
      refine q_setL (v := .int (cell / limit)) b2 (ev_op (ev_var rfl) (ev_var rfl) (rv_I (wide_div (b := 60) p0 (by omega) (by decide) (by decide)))) (ix1 (ev_var rfl) b1) (Ev.int_eq (ev_op (ix2 (ev_var rfl) b1) (Ev.int_eq (ev_len (ix1 (ev_var rfl) b1) (sq_of b2)) hlen) (rv_I (by show (0 : Int) < _; omega))) hj) (by rw [List.length_map]; omega) fun H3 e3 => ?_
      refine s_ret (ev_op (ev_var rfl) (ev_var rfl) (rv_I p0)) fun H4 e4 => ?_
      have q3 : HS (upd H3 l (.lst ((cells.map V.int).set j (.int (cell / limit))))) a l := ⟨m, cells.set j (cell / limit), idx, by rw [upd_ne nla.symm]; exact e3 _ _ b1, by rw [upd_same, List.map_set], m0, m1, i0, by rw [List.length_set]; exact c0⟩
      exact k _ _ (Int.emod_nonneg _ (by omega)) (Int.emod_lt_of_pos _ p0) (((Dr.of hs ((e1.trans e2).trans e3)).trans (Dr.upd (.inr rfl) q3)).trans (Dr.of q3 e4))
    · have b1 := e2 _ _ a1
      have b2 := e2 _ _ a2
      have n0 : 0 ≤ (m * 48271 + cell * 69621 + 11) % 2147483647 := Int.emod_nonneg _ (by omega)
      have n1 : (m * 48271 + cell * 69621 + 11) % 2147483647 < 2147483647 := Int.emod_lt_of_pos _ (by omega)
      refine q_setL (j := 0) (v := .int ((m * 48271 + cell * 69621 + 11) % 2147483647)) b1 (ev_op (ev_op (ev_op (ev_op (ev_ixL (v := .int m) (ev_var rfl) (sq_of b1) ev_c rfl) ev_c (rv_I (wide_ok (by decide)))) (ev_op (ev_var rfl) ev_c (rv_I (wide_ok (by decide)))) rv_I0) ev_c rv_I0) ev_c (rv_I (by show (0 : Int) < 2147483647; decide))) (ev_var rfl) ev_c (by show 0 < 3; decide) fun H3 e3 => ?_
      have d1 : (upd H3 a (.lst (([.int m, .ref l, .int idx] : List V).set 0 (.int ((m * 48271 + cell * 69621 + 11) % 2147483647))))) a = some (.lst [.int ((m * 48271 + cell * 69621 + 11) % 2147483647), .ref l, .int idx]) := upd_same
      have q3 : HS (upd H3 a (.lst (([.int m, .ref l, .int idx] : List V).set 0 (.int ((m * 48271 + cell * 69621 + 11) % 2147483647))))) a l := ⟨_, cells, idx, d1, by rw [upd_ne nla]; exact e3 _ _ b2, n0, n1, i0, c0⟩
      have D3 := (Dr.of hs ((e1.trans e2).trans e3)).trans (Dr.upd (.inl rfl) q3)
      refine q_setL (j := 2) (v := .int (idx + 1)) d1 (ev_op (ix2 (ev_var rfl) d1) ev_c rv_I0) (ev_var rfl) ev_c (by show 2 < 3; decide) fun H4 e4 => ?_
      generalize upd H3 a (.lst (([.int m, .ref l, .int idx] : List V).set 0 (.int ((m * 48271 + cell * 69621 + 11) % 2147483647)))) = S3 at d1 q3 D3 e4
      have d2 : (upd H4 a (.lst (([.int ((m * 48271 + cell * 69621 + 11) % 2147483647), .ref l, .int idx] : List V).set 2 (.int (idx + 1))))) a = some (.lst [.int ((m * 48271 + cell * 69621 + 11) % 2147483647), .ref l, .int (idx + 1)]) := upd_same
      have q4 : HS (upd H4 a (.lst (([.int ((m * 48271 + cell * 69621 + 11) % 2147483647), .ref l, .int idx] : List V).set 2 (.int (idx + 1))))) a l := by
        obtain ⟨_, cells', _, _, h2', _, _, _, c0'⟩ := q3
        exact ⟨_, cells', idx + 1, d2, by rw [upd_ne nla]; exact e4 _ _ h2', n0, n1, by omega, c0'⟩
      refine s_ret (ev_op (ev_op (ev_ixL (v := .int ((m * 48271 + cell * 69621 + 11) % 2147483647)) (ev_var rfl) (sq_of d2) ev_c rfl) ev_c (rv_I (wide_div (b := 3) (by decide) (by decide) (by decide) (by decide)))) (ev_var rfl) (rv_I p0)) fun H5 e5 => ?_
      exact k _ _ (Int.emod_nonneg _ (by omega)) (Int.emod_lt_of_pos _ p0) (((D3.trans (Dr.of q3 e4)).trans (Dr.upd (.inl rfl) q4)).trans (Dr.of q4 e5))
end Sw
namespace Sw
open PySem PySem.Spec PyProof.Rows L2 Evl
local macro_rules | `(tactic| walk_at "ev") => `(tactic| first
  | exact ev_c
  | exact ev_var rfl
  | ((with_reducible show Ev (tCB rMax2 _) _ _ _); exact ev_maxi (by walk_at "ev") (by walk_at "ev"))
  | ((with_reducible show Ev (tCB rMn _) _ _ _); exact ev_min2 (by walk_at "ev") (by walk_at "ev"))
  | ((with_reducible show Ev (tUn _ _) _ _ _); exact ev_un (by walk_at "ev") ru_neg)
  | ((with_reducible show Ev (tFld _ _ _) _ _ _); exact ev_fldK (by walk_at "ev") (by assumption))
  | ((with_reducible show Ev (tOp (rI0 _) _ _) _ _ _); exact ev_op (by walk_at "ev") (by walk_at "ev") rv_I0)
  | ((with_reducible show Ev (tOp rEq _ _) _ _ _); exact ev_op (by walk_at "ev") (by walk_at "ev") (rv_eq rfl))
  | ((with_reducible show Ev (tOp rNe _ _) _ _ _); exact ev_op (by walk_at "ev") (by walk_at "ev") (rv_ne rfl)))

/-! ### evaluating while cells are drawn -/
def EvX (te : TE) (σ : L2.St) (H : Hp) (h l : Addr) (P : V → Hp → Prop) : Prop := ∀ H1, Dr h l H H1 → ∀ Q : VK, (∀ v H2, Dr h l H1 H2 → P v (wn H2 (hl h l)) → Q v H2) → te σ H1 Q
def EvI (te : TE) (σ : L2.St) (H : Hp) (h l : Addr) (A : Int → Prop) : Prop := EvX te σ H h l fun v _ => ∃ i, v = .int i ∧ A i
def EvXT (t : TT) (σ : L2.St) (H : Hp) (h l : Addr) : Prop := ∀ H1, Dr h l H H1 → ∀ Q : Bool → Hp → Prop, (∀ b H2, Dr h l H1 H2 → Q b H2) → t σ H1 Q
/-- a list, a tuple of numbers -/
def LI (A : List Int → Prop) : V → Hp → Prop := fun v G => ∃ p ns, v = .ref p ∧ G p = some (.lst (ns.map V.int)) ∧ A ns
def TI' (A : List Int → Prop) : V → Hp → Prop := fun v G => ∃ p ns, v = .ref p ∧ G p = some (.tup (ns.map V.int)) ∧ A ns
section
variable {K : PySem.W.Frag} {σ : L2.St} {H H' : Hp} {ta tb tc te tx : TE} {x y z v : V} {a h l : Addr} {xs ys : List V} {A B C D : Int → Prop} {i j : Int}
theorem hl_kind {G : Hp} {p : Addr} {o : HO} (q : HS G h l) (hp : G p = some o) (ho : ∀ ys, o ≠ .lst ys) : ¬ hl h l p := by
  obtain ⟨m, cells, idx, h1, h2, _⟩ := q
  rintro (rfl | rfl)
  · rw [h1] at hp; exact ho _ (Option.some.inj hp).symm
  · rw [h2] at hp; exact ho _ (Option.some.inj hp).symm
theorem hl_new {G G' : Hp} {p : Addr} (q : HS G h l) (hp : G p = none) : ¬ hl h l p := fun z => q.kn p z hp
theorem x_ev (hv : Ev te σ (wn H (hl h l)) v) : EvX te σ H h l (fun u _ => u = v) := fun H1 d Q q => hv H1 (d.ex.trans wn_ex) Q fun H2 e2 => q v H2 (Dr.of d.hs e2) rfl
theorem xi_ev (hv : Ev te σ (wn H (hl h l)) (.int i)) (ha : A i) : EvI te σ H h l A := fun H1 d Q q => hv H1 (d.ex.trans wn_ex) Q fun H2 e2 => q _ H2 (Dr.of d.hs e2) ⟨i, rfl, ha⟩
theorem x_evU (hv : EvU te σ (wn H (hl h l)) xs) : EvX te σ H h l (fun u G => ∃ p, u = .ref p ∧ G p = some (.tup xs)) := fun H1 d Q q =>
  hv H1 (d.ex.trans wn_ex) Q fun p H2 hp e2 h2 => q _ H2 (Dr.of d.hs e2) ⟨p, rfl, by rw [wn_ni (hl_new (G' := H2) d.hs hp)]; exact h2⟩
theorem x_evL (hv : EvL te σ (wn H (hl h l)) xs) : EvX te σ H h l (fun u G => ∃ p, u = .ref p ∧ G p = some (.lst xs)) := fun H1 d Q q =>
  hv H1 (d.ex.trans wn_ex) Q fun p H2 hp e2 h2 => q _ H2 (Dr.of d.hs e2) ⟨p, rfl, by rw [wn_ni (hl_new (G' := H2) d.hs hp)]; exact h2⟩
theorem x_evW (hv : EvW K te σ (wn H (hl h l)) xs) : EvX te σ H h l (fun u G => ∃ p, u = .ref p ∧ SqT K G p xs) := fun H1 d Q q =>
  hv H1 (d.ex.trans wn_ex) Q fun p H2 e2 h2 => q _ H2 (Dr.of d.hs e2) ⟨p, rfl, by
    have q2 := d.hs.mono e2
    rcases h2 with (z | ⟨u, z⟩) | z
    · exact .inl (.inl (by rw [wn_ni (hl_kind q2 z (fun _ q => nomatch q))]; exact z))
    · exact .inl (.inr ⟨u, by rw [wn_ni (hl_kind q2 z (fun _ q => nomatch q))]; exact z⟩)
    · exact .inr z⟩
theorem x_evR {Pr : Addr → Hp → Prop} (hv : EvR te σ (wn H (hl h l)) (hl h l) Pr) : EvX te σ H h l (fun u G => ∃ p, u = .ref p ∧ Pr p G) := fun H1 d Q q =>
  hv H1 (d.ex.trans wn_ex) d.hs.kn Q fun p H2 _ e2 hP => q _ H2 (Dr.of d.hs e2) ⟨p, rfl, hP⟩
theorem EvX.imp {P P' : V → Hp → Prop} (hv : EvX te σ H h l P) (f : ∀ v G, P v G → P' v G) : EvX te σ H h l P' := fun H1 d Q q => hv H1 d Q fun v H2 d2 p => q v H2 d2 (f _ _ p)
theorem EvX.from {P : V → Hp → Prop} (d : Dr h l H H') (hv : EvX te σ H h l P) : EvX te σ H' h l P := fun H1 d1 Q q => hv H1 (d.trans d1) Q q
theorem EvI.imp (hv : EvI te σ H h l A) (f : ∀ i, A i → B i) : EvI te σ H h l B := fun H1 d Q q => hv H1 d Q fun v H2 d2 ⟨i, e, p⟩ => q v H2 d2 ⟨i, e, f i p⟩
theorem xi_op0 {g : Int → Int → Int} (ha : EvI ta σ H h l A) (hb : EvI tb σ H h l B) (hc : ∀ i j, A i → B j → D (g i j)) : EvI (tOp (rI0 fun i j => .int (g i j)) ta tb) σ H h l D := fun H1 d Q q =>
  ha H1 d _ fun _ H2 d2 ⟨i, e, hi⟩ => hb H2 (d.trans d2) _ fun _ H3 d3 ⟨j, e', hj⟩ => ⟨i, j, e, e', q _ H3 (d2.trans d3) ⟨_, rfl, hc i j hi hj⟩⟩
theorem xi_op {R : Int → Int → Prop} {g : Int → Int → Int} (ha : EvI ta σ H h l A) (hb : EvI tb σ H h l B) (hc : ∀ i j, A i → B j → R i j ∧ D (g i j)) : EvI (tOp (rI R fun i j => .int (g i j)) ta tb) σ H h l D := fun H1 d Q q =>
  ha H1 d _ fun _ H2 d2 ⟨i, e, hi⟩ => hb H2 (d.trans d2) _ fun _ H3 d3 ⟨j, e', hj⟩ => ⟨i, j, e, e', (hc i j hi hj).1, q _ H3 (d2.trans d3) ⟨_, rfl, (hc i j hi hj).2⟩⟩
theorem xi_next {E : XK} (ha : ∀ G, Ev ta σ G (.ref h)) (hb : EvI tb σ H h l A) (hA : ∀ i, A i → 0 < i ∧ i ≤ 1000000000000000000) : EvI (tCall sp_next [] E (tCons ta (tCons tb tNil))) σ H h l (fun v => 0 ≤ v ∧ ∃ i, A i ∧ v < i) := fun H1 d Q q =>
  ha H1 H1 (Ex.refl _) _ fun H2 e2 => hb H2 (d.trans (Dr.of d.hs e2)) _ fun _ H3 d3 ⟨i, e, hi⟩ => by
    subst e
    exact ⟨h, l, i, rfl, (hA i hi).1, (hA i hi).2, d3.hs, fun v H4 v0 v1 d4 => q _ H4 (((Dr.of d.hs e2).trans d3).trans d4) ⟨v, rfl, v0, i, hi, v1⟩⟩
theorem xb_cmp {g : Int → Int → Bool} (ha : EvI ta σ H h l A) (hb : EvI tb σ H h l B) : EvX (tOp (rI0 fun i j => .bl (g i j)) ta tb) σ H h l (fun v _ => ∃ k, v = .bl k) := fun H1 d Q q =>
  ha H1 d _ fun _ H2 d2 ⟨i, e, _⟩ => hb H2 (d.trans d2) _ fun _ H3 d3 ⟨j, e', _⟩ => ⟨i, j, e, e', q _ H3 (d2.trans d3) ⟨_, rfl⟩⟩
theorem xb_eq (ha : EvI ta σ H h l A) (hb : EvI tb σ H h l B) : EvX (tOp rEq ta tb) σ H h l (fun v _ => ∃ k, v = .bl k) := fun H1 d Q q =>
  ha H1 d _ fun _ H2 d2 ⟨i, e, _⟩ => hb H2 (d.trans d2) _ fun _ H3 d3 ⟨j, e', _⟩ => by
    subst e e'
    exact ⟨rfl, q _ H3 (d2.trans d3) ⟨_, rfl⟩⟩
def rInt1 : List V → Hp → VK → Prop := fun xs H Q => (∃ i, xs = [.int i] ∧ Q (.int i) H) ∨ ∃ k, xs = [.bl k] ∧ Q (.int (if k then 1 else 0)) H
theorem xi_intb (ha : EvX ta σ H h l (fun v _ => ∃ k, v = .bl k)) : EvI (tCB rInt1 (tCons ta tNil)) σ H h l (fun i => i = 0 ∨ i = 1) := fun H1 d Q q =>
  ha H1 d _ fun _ H2 d2 ⟨k, e⟩ => .inr ⟨k, by rw [e], q _ H2 d2 ⟨_, rfl, by cases k <;> simp⟩⟩
theorem xt_test (ha : EvX ta σ H h l (fun v _ => ∃ k, v = .bl k)) : EvXT (tTest ta) σ H h l := fun H1 d Q q => ha H1 d _ fun _ H2 d2 ⟨k, e⟩ => ⟨k, e, q k H2 d2⟩
/-- [a, b][draw] -/
theorem xi_pick {n : Nat} {ns : List Int} (ha : EvL ta σ (wn H (hl h l)) (ns.map V.int)) (hb : EvI tb σ H h l B) (hn : ∀ i, B i → 0 ≤ i ∧ i < ns.length) : EvI (tOp (rIxL K) ta tb) σ H h l (fun i => i ∈ ns) := fun H1 d Q q =>
  x_evL ha H1 d _ fun _ H2 d2 ⟨p, e, hp⟩ => hb H2 (d.trans d2) _ fun _ H3 d3 ⟨j, e', hj⟩ => by
    subst e e'
    obtain ⟨j0, j1⟩ := hn j hj
    refine ⟨p, ns.map V.int, j, .int (ns.getD j.toNat 0), rfl, rfl, sq_of (wn_ex _ _ (d3.ex _ _ hp)), atI_mapI j0 j1, q _ H3 (d2.trans d3) ⟨_, rfl, ?_⟩⟩
    have hlt : j.toNat < ns.length := by omega
    have e : ns.getD j.toNat 0 = ns[j.toNat] := by simp [List.getD, hlt]
    rw [e]; exact List.getElem_mem hlt
/-- [e for i in range(n)], e drawn -/
theorem x_lcR {ta : TA} {jj : Nat} {vs : List Nat} {n : Int} (hn : EvA ta σ (wn H (hl h l)) [.int n]) (hz : 0 ≤ n ∧ n ≤ 40000) (hw : ∀ x, wipe ((wipe σ vs).set jj (some x)) vs = wipe σ vs)
    (he : ∀ (i : Nat) H1, Dr h l H H1 → (i : Int) < n → EvI te ((wipe σ vs).set jj (some (.int (i : Int)))) H1 h l A) : EvX (tLc (iRng1 ta) (gName jj) tYes te vs) σ H h l (LI fun ns => (ns.length : Int) = n ∧ ∀ x ∈ ns, A x) := fun H0 d0 Q q =>
  hn H0 (d0.ex.trans wn_ex) _ fun H1 e1 => ⟨n, rfl, by omega, by omega, fun Dl hD => by
    have d1 := Dr.of d0.hs e1
    have nD : ¬ hl h l Dl := hl_new (G' := H1) d1.hs hD
    have dn : Dr h l H1 (upd H1 Dl (.lst [])) := Dr.of d1.hs (Ex.new hD)
    refine lc_range (lo := 0) (n := n.toNat) (fun i H' => Dr h l H1 H' ∧ ∃ ns : List Int, H' Dl = some (.lst (ns.map V.int)) ∧ ns.length = i ∧ ∀ x ∈ ns, A x) ⟨dn, [], upd_same, rfl, by simp⟩ (fun i H' hi p => ?_) (fun H' p => ?_)
    · obtain ⟨d2, ns, h2, hl2, hA⟩ := p
      have e0 : (0 : Int) + (i : Int) = (i : Int) := Int.zero_add _
      show wipe ((wipe σ vs).set jj (some (.int ((0 : Int) + (i : Int))))) vs = wipe σ vs ∧ _
      refine ⟨hw _, ?_⟩
      show te ((wipe σ vs).set jj (some (.int ((0 : Int) + (i : Int))))) H' _
      rw [e0]
      refine he i H' ((d0.trans d1).trans d2) (by omega) H' (Dr.refl d2.hs) _ fun v H3 d3 hv => ?_
      obtain ⟨k, rfl, hk⟩ := hv
      have h3 : H3 Dl = some (.lst (ns.map V.int)) := wn_ex _ _ (d3.ex _ _ (by rw [wn_ni nD]; exact h2))
      have d5 : Dr h l H1 (upd H3 Dl (.lst (ns.map V.int ++ [.int k]))) := ⟨by
        obtain ⟨m, cells, idx, a1, a2, r⟩ := d3.hs
        exact ⟨m, cells, idx, by rw [upd_ne (fun z => nD (.inl z.symm))]; exact a1, by rw [upd_ne (fun z => nD (.inr z.symm))]; exact a2, r⟩, fun b u hb => by
        obtain ⟨q1, q2⟩ := wn_some hb
        have z := wn_ex _ _ ((d2.trans d3).ex b u hb)
        rw [wn_ni q1, upd_ne (ne_of_none q2 hD)]
        exact z⟩
      refine ⟨_, h3, by rw [List.length_map]; exact sz_lt (by omega), d5, ns ++ [k], by rw [upd_same, List.map_append]; rfl, by rw [List.length_append, hl2]; rfl, fun x hx => ?_⟩
      rcases List.mem_append.mp hx with z | z
      · exact hA x z
      · rw [List.mem_singleton.mp z]; exact hk
    · obtain ⟨d2, ns, h2, hl2, hA⟩ := p
      exact q _ H' (d1.trans d2) ⟨Dl, ns, rfl, by rw [wn_ni nD]; exact h2, by omega, hA⟩⟩
/-- statements whose values are drawn -/
theorem x_ret {P : V → Hp → Prop} {D : Ends} (hs : HS H h l) (hx : EvX te σ H h l P) (k : ∀ v H2, Dr h l H H2 → P v (wn H2 (hl h l)) → D.rt v H2) : tRet te D σ H := hx H (Dr.refl hs) _ k
theorem x_asgG {P : V → Hp → Prop} {D : Ends} {tz : TS} {g : TG} (hs : HS H h l) (hx : EvX te σ H h l P) (k : ∀ v H2, Dr h l H H2 → P v (wn H2 (hl h l)) → g v σ H2 (tz D)) : tSeq (tAsg te g) tz D σ H := hx H (Dr.refl hs) _ k
theorem x_asg {P : V → Hp → Prop} {D : Ends} {tz : TS} {n : Nat} (hs : HS H h l) (hx : EvX te σ H h l P) (k : ∀ v H2, Dr h l H H2 → P v (wn H2 (hl h l)) → tz D (σ.set n (some v)) H2) : tSeq (tAsg te (gName n)) tz D σ H := hx H (Dr.refl hs) _ k
theorem x_asgI {D : Ends} {tz : TS} {n : Nat} (hs : HS H h l) (hx : EvI te σ H h l A) (k : ∀ i H2, Dr h l H H2 → A i → tz D (σ.set n (some (.int i))) H2) : tSeq (tAsg te (gName n)) tz D σ H := hx H (Dr.refl hs) _ fun _ H2 d ⟨i, e, p⟩ => by subst e; exact k i H2 d p
theorem x_par {P Q : V → Hp → Prop} {D : Ends} {tz : TS} {m n : Nat} (hs : HS H h l) (hx : EvX ta σ H h l P) (hy : EvX tb σ H h l Q) (k : ∀ v w H1 H2, Dr h l H H1 → Dr h l H1 H2 → P v (wn H1 (hl h l)) → Q w (wn H2 (hl h l)) → tz D ((σ.set m (some v)).set n (some w)) H2) : tSeq (tPar m n (tCons ta (tCons tb tNil))) tz D σ H :=
  hx H (Dr.refl hs) _ fun v H1 d1 p1 => hy H1 d1 _ fun w H2 d2 p2 => ⟨v, w, rfl, k v w H1 H2 d1 d2 p1 p2⟩
theorem x_if {D : Ends} {tt : TT} {tu tw tz : TS} (hs : HS H h l) (hx : EvXT tt σ H h l) (h1 : ∀ H2, Dr h l H H2 → tu { D with nx := tz D } σ H2) (h2 : ∀ H2, Dr h l H H2 → tw { D with nx := tz D } σ H2) : tSeq (tIfS tt tu tw) tz D σ H := hx H (Dr.refl hs) _ fun b H2 d => by
  cases b with
  | true => exact h1 H2 d
  | false => exact h2 H2 d
theorem x_ifK {M : L2.St → Hp → Prop} {D : Ends} {tt : TT} {tu tw tz : TS} (hs : HS H h l) (hx : EvXT tt σ H h l) (fin : ∀ σ' H', M σ' H' → tz D σ' H') (h1 : ∀ H2, Dr h l H H2 → (∀ σ' H', M σ' H' → tz D σ' H') → tu { D with nx := tz D } σ H2)
    (h2 : ∀ H2, Dr h l H H2 → (∀ σ' H', M σ' H' → tz D σ' H') → tw { D with nx := tz D } σ H2) : tSeq (tIfS tt tu tw) tz D σ H := x_if hs hx (fun H2 d => h1 H2 d fin) (fun H2 d => h2 H2 d fin)
/-- a call all of whose arguments are drawn: the first ones plain -/
theorem x_call3 {sp : Sp} {E : XK} {P : V → Hp → Prop} {u : V} (ha : ∀ G, Ev ta σ G u) (hb : EvI tb σ H h l A) (hc : EvI tc σ H h l B) (hp : ∀ i j H1, A i → B j → Dr h l H H1 → ∀ Q : VK, (∀ v H2, Dr h l H1 H2 → P v (wn H2 (hl h l)) → Q v H2) → sp [u, .int i, .int j] H1 Q E) :
    EvX (tCall sp [] E (tCons ta (tCons tb (tCons tc tNil)))) σ H h l P := fun H1 d Q q =>
  ha H1 H1 (Ex.refl _) _ fun H2 e2 => hb H2 (d.trans (Dr.of d.hs e2)) _ fun _ H3 d3 ⟨i, e, hi⟩ => hc H3 ((d.trans (Dr.of d.hs e2)).trans d3) _ fun _ H4 d4 ⟨j, e', hj⟩ => by
    subst e e'
    exact hp i j H4 hi hj (((d.trans (Dr.of d.hs e2)).trans d3).trans d4) Q fun v H5 d5 p => q v H5 ((((Dr.of d.hs e2)).trans d3).trans (d4.trans d5)) p
theorem x_tupL {A : List Int → Prop} (ha : EvX ta σ H h l (LI A)) : EvX (tCB (rTupS K) (tCons ta tNil)) σ H h l (TI' A) := fun H1 d Q q =>
  ha H1 d _ fun _ H2 d2 ⟨p, ns, e, hp, hA⟩ => ⟨p, ns.map V.int, by rw [e], .inl ⟨sq_of (wn_ex _ _ hp), fun t ht => by
    have d3 := Dr.of d2.hs (Ex.new (o := .tup (ns.map V.int)) ht)
    exact q _ _ (d2.trans d3) ⟨t, ns, rfl, by rw [wn_ni (hl_new (G' := H2) d2.hs ht)]; exact upd_same, hA⟩⟩⟩
theorem ew_cat (ha : EvW K ta σ H xs) (hb : EvW K tb σ H ys) (hz : xs.length + ys.length ≤ 100000) : EvW K (tOp (rCatA K) ta tb) σ H (xs ++ ys) := fun H1 e Q q =>
  ha H1 e _ fun p H2 e2 h2 => hb H2 (e.trans e2) _ fun r H3 e3 h3 => ⟨p, r, xs, ys, rfl, rfl, ex_t e3 h2, h3, sz_of hz,
    fun z => q r H3 (e2.trans e3) (by rw [z]; exact h3), fun _ z => q p H3 (e2.trans e3) (by rw [z, List.append_nil]; exact ex_t e3 h2),
    fun _ _ t ht => q t _ ((e2.trans e3).trans (Ex.new ht)) (st_of upd_same)⟩
theorem ew_drop {tl : TE} {k : Nat} (ha : EvW K te σ H xs) (hk : Ev tl σ H (.int (k : Int))) : EvW K (tSl (rSlA K) te (tPart tl) tNoPart) σ H (xs.drop k) := fun H1 e Q q =>
  ha H1 e _ fun p H2 e2 h2 => hk H2 (e.trans e2) _ fun H3 e3 => ⟨(k : Int), rfl, p, xs, rfl, ex_t e3 h2, fun w => by
      have hi : min k xs.length = 0 := by rw [← HT.sIx_nat xs.length 0 k]; exact w.1
      have t : xs.drop k = xs := by
        rcases Nat.eq_zero_or_pos k with z | z
        · rw [z]; rfl
        · have : xs.length = 0 := by omega
          rw [List.length_eq_zero_iff.mp this]; simp
      rw [t] at q
      exact q p H3 (e2.trans e3) (ex_t e3 h2), fun _ r hr => by
      refine q r _ ((e2.trans e3).trans (Ex.new hr)) (st_of ?_)
      rw [upd_same]
      unfold cutV
      rw [HT.sIx_none, HT.sIx_nat]
      congr 2
      by_cases hk : k ≤ xs.length
      · rw [Nat.min_eq_left hk, List.take_of_length_le (by simp)]
      · rw [Nat.min_eq_right (by omega)]
        simp [List.drop_eq_nil_of_le (Nat.le_of_not_le hk)]⟩
end
variable {P : Program} {w : World} {K : PySem.W.Frag} {mg : Str → Option Value} {base : Heap} {Z : Ad}
/-! ### _law_mix, _law_amounts, _law_parts -/
def sp_mix (K : PySem.W.Frag) : Sp := fun vs H Q _ => ∃ (a : Addr) (ns : List Int) (seed : Int), vs = [.ref a, .int seed] ∧ SqL K H a (ns.map V.int) ∧ ns.length ≤ 63 ∧ 0 ≤ seed ∧ seed < 2147483647 ∧
  ∀ h l H', H h = none → H l = none → Ex H H' → HS H' h l → Q (.ref h) H'
theorem ok__law_mix (T : Txt K mg Z) : FnOk P w K mg base CX0 1 Z.f__law_mix Z.d__law_mix p__law_mix (sp_mix K) := by
  refine T.F__law_mix.ok sc__law_mix (fun vs H Q E h => ?_) (fun cdv Ar outer s H vs Q E hr h => ?_)
  · obtain ⟨a, ns, seed, rfl, _⟩ := h
    rfl
  · obtain ⟨a, ns, seed, rfl, hS, hn, s0, s1, k⟩ := h
    refine ⟨_, (pss_cons (ps_set (i := 2) sc__law_mix.nd rfl (Or.inl rfl) (pv 1))
      (pss_cons (ps_for PassesOwn.never rfl (pi_listK K rfl (pv 0)) (pg_name (i := 3) sc__law_mix.nd rfl (Or.inl rfl)) (pss_one (ps_set (i := 2) sc__law_mix.nd rfl (Or.inl rfl) (pe_op op_mod (pe_op op_add (pe_op op_add (pe_op op_mul (pv 2) pe_int) (pe_op op_mod (pv 3) pe_int)) pe_int) pe_int))))
      (pss_one (ps_ret (pe_lst (pa_cons (pv 2) (pa_cons (pe_callTy (r := rListS K) (call_list_of) (by rfl) T.b_list boot_list (pa_cons (pv 0) pa_nil)) (pa_cons pe_int pa_nil)))))))), ?_⟩
    refine q_asg (ev_var rfl) fun H1 e1 => ?_
    refine q_forLn (ev_var rfl) (ex_l e1 hS) (fun i σ' H' => (∃ m x, σ' = [some (.ref a), some (.int seed), some (.int m), x] ∧ 0 ≤ m ∧ m < 2147483647) ∧ Ex H H') (fun H2 e2 => ⟨⟨seed, _, rfl, s0, s1⟩, e1.trans e2⟩) (fun i σ' H' _ p => ex_l p.2 hS) ?_ ?_
    · rintro i x σ' H' hx ⟨⟨m, _, rfl, m0, m1⟩, e2⟩
      obtain ⟨rfl, hi⟩ := at_map hx
      refine s_asg (ev_op (ev_op (ev_op (ev_op (ev_var rfl) ev_c (rv_I (wide_ok (by decide)))) (ev_op (ev_var rfl) ev_c (rv_I (by show (0 : Int) < 2147483629; decide))) rv_I0) ev_c rv_I0) ev_c (rv_I (by show (0 : Int) < 2147483647; decide))) fun H2 e3 => ?_
      exact ⟨⟨_, _, rfl, Int.emod_nonneg _ (by decide), Int.emod_lt_of_pos _ (by decide)⟩, e2.trans e3⟩
    · rintro σ' H' ⟨⟨m, _, rfl, m0, m1⟩, e2⟩
      have hS' := ex_l e2 hS
      refine ⟨.int m, rfl, ?_⟩
      refine el_list (ev_var (i := 0) rfl) hS' H' (Ex.refl _) _ fun p H3 hp e4 h3 => ?_
      refine ⟨by show 3 ≤ sizeLine; decide, fun r hr => ?_⟩
      have np : p ≠ r := ne_of_none h3 hr
      refine k r p _ (fresh_back (e2.trans e4) hr) (fresh_back e2 hp) ((e2.trans e4).trans (Ex.new hr)) ⟨m, ns, 0, upd_same, by rw [upd_ne np]; exact h3, m0, m1, by decide, hn⟩
def sp_lawamounts : Sp := fun vs H Q _ => ∃ (h l : Addr) (count wide : Int), vs = [.ref h, .int count, .int wide] ∧ 0 ≤ count ∧ count ≤ 1000 ∧ 0 < wide ∧ wide ≤ 1000000000 ∧ HS H h l ∧
  ∀ (p : Addr) (ns : List Int) (H' : Hp), Dr h l H H' → wn H' (hl h l) p = some (.tup (ns.map V.int)) → (ns.length : Int) = count → (∀ x ∈ ns, 0 ≤ x ∧ x < wide) → Q (.ref p) H'
theorem ok__law_amounts (T : Txt K mg Z) : FnOk P w K mg base CX0 2 Z.f__law_amounts Z.d__law_amounts p__law_amounts sp_lawamounts := by
  refine T.F__law_amounts.ok sc__law_amounts (fun vs H Q E h => ?_) (fun cdv Ar outer s H vs Q E hr h => ?_)
  · obtain ⟨a, l, count, wide, rfl, _⟩ := h
    rfl
  · obtain ⟨a, l, count, wide, rfl, c0, c1, w0, w1, hs, k⟩ := h
    refine ⟨_, (pss_one (ps_ret (pe_callTy (r := rTupS K) (call_tuple_of) (by rfl) T.b_tuple boot_tuple (pa_cons (pe_lc (own := [("_law_k", 3)]) rfl sc__law_amounts.nd (pi_range1 (by rfl) T.b_range (pa_cons (pv 1) pa_nil)) (blkOk_by (own := [("_law_k", 3)]) (N := n__law_amounts) (sc := defScope s__law_amounts) (scope := { kind := PySem.ScopeKind.function, names := [ (PySem.Str.ofString ".0", PySem.NameKind.local), (PySem.Str.ofString "_law_k", PySem.NameKind.local), (PySem.Str.ofString "_law_next", PySem.NameKind.globalImplicit), (PySem.Str.ofString "int", PySem.NameKind.globalImplicit), (PySem.Str.ofString "_law_h", PySem.NameKind.free), (PySem.Str.ofString "_law_wide", PySem.NameKind.free)], isGenerator := false, isCoroutine := false, more := [] : PySem.Scope }) (by decide +kernel)) (fun _ _ _ _ _ => (pg_name (i := 3) sc__law_amounts.nd rfl (Or.inl rfl))) (fun _ _ _ _ _ => pts_nil) (fun _ _ _ _ _ => (pe_op op_mul (pe_call (ok__law_next T) (hr.mono (by decide)) (by rfl) T.g__law_next T.F__law_next.kp T.b__law_next .nil pass0 (pa_cons (pv 0) (pa_cons (pv 2) pa_nil))) (pe_callTy (r := rInt1) (call_int1) (by rfl) T.b_int boot_int (pa_cons (pe_cmpR op_gt (pe_call (ok__law_next T) (hr.mono (by decide)) (by rfl) T.g__law_next T.F__law_next.kp T.b__law_next .nil pass0 (pa_cons (pv 0) (pa_cons pe_int pa_nil))) pe_int (nomark _)) pa_nil))))) pa_nil)))), ?_⟩
    have hx : EvX _ _ H a l (TI' fun ns => (ns.length : Int) = count ∧ ∀ x ∈ ns, 0 ≤ x ∧ x < wide) := x_tupL (K := K) (x_lcR (jj := 3) (vs := [3]) (n := count) (σ := [some (.ref a), some (.int count), some (.int wide), none]) (ea_cons (ev_var (i := 1) rfl) ea_nil) ⟨c0, by omega⟩ (fun _ => rfl) fun i H1 d1 hi =>
      xi_op (A := fun v => 0 ≤ v ∧ v < wide) (B := fun i => i = 0 ∨ i = 1) ((xi_next (E := E0) (A := fun i => i = wide) (fun G => ev_var (i := 0) rfl) (xi_ev (ev_var (i := 2) rfl) rfl) (fun i e => by omega)).imp fun v q => ⟨q.1, by obtain ⟨i, e, q⟩ := q.2; omega⟩)
        (xi_intb (xb_cmp (g := fun i j => decide (j < i)) (A := fun _ => True) (B := fun _ => True) ((xi_next (E := E0) (A := fun i => i = 4) (fun G => ev_var (i := 0) rfl) (xi_ev ev_c rfl) (fun i e => by omega)).imp fun _ _ => trivial) (xi_ev (i := 0) ev_c trivial)))
        (R := CMul) (g := fun i j => i * j) fun i j hi hj => ⟨by rcases hj with rfl | rfl <;> exact .inr (by decide), by rcases hj with rfl | rfl <;> simp <;> omega⟩)
    exact hx H (Dr.refl hs) _ fun v H2 d2 ⟨p, ns, e, hp, hl', hA⟩ => by
      subst e
      exact k p ns H2 d2 hp hl' hA
theorem x_amounts {σ : L2.St} {H : Hp} {h l : Addr} {ta tb tc : TE} {E : XK} {n w : Int} (ha : ∀ G, Ev ta σ G (.ref h)) (hb : Ev tb σ (wn H (hl h l)) (.int n)) (hc : Ev tc σ (wn H (hl h l)) (.int w)) (n0 : 0 ≤ n) (n1 : n ≤ 1000) (w0 : 0 < w) (w1 : w ≤ 1000000000) :
    EvX (tCall sp_lawamounts [] E (tCons ta (tCons tb (tCons tc tNil)))) σ H h l (TI' fun ns => (ns.length : Int) = n ∧ ∀ x ∈ ns, 0 ≤ x ∧ x < w) :=
  x_call3 (A := fun i => i = n) (B := fun j => j = w) ha (xi_ev hb rfl) (xi_ev hc rfl) fun i j H1 ei ej d1 Q q => by
    subst ei ej
    exact ⟨h, l, i, j, rfl, n0, n1, w0, w1, d1.hs, fun p ns H2 d2 hp e1 e2 => q _ H2 d2 ⟨p, ns, rfl, hp, e1, e2⟩⟩
theorem getD_le_sum {xs : List Int} (h : ∀ x ∈ xs, 0 ≤ x) (i : Nat) : xs.getD i 0 ≤ xs.sum := by
  induction xs generalizing i with
  | nil => simp
  | cons a r ih =>
    have h0 := h a (by simp)
    have hr : ∀ x ∈ r, 0 ≤ x := fun x hx => h x (by simp [hx])
    have s0 : 0 ≤ r.sum := by
      clear ih h
      induction r with
      | nil => simp
      | cons b r ih2 => rw [List.sum_cons]; have := hr b (by simp); have := ih2 fun x hx => hr x (by simp [hx]); omega
    cases i with
    | zero => rw [List.sum_cons, List.getD_cons_zero]; omega
    | succ i => rw [List.sum_cons, List.getD_cons_succ]; have := ih hr i; omega
/-- what is drawn for a bakery -/
structure Parts (K : PySem.W.Frag) (G : Hp) (pb pd : Addr) (bs ds : List Int) (life most wide : Int) : Prop where
  hb : SqT K G pb (bs.map V.int)
  hd : SqT K G pd (ds.map V.int)
  gd : Good bs ds
  ml : (bs.length : Int) ≤ most
  bw : ∀ x ∈ bs, x ≤ 25 * wide
  dw : ∀ x ∈ ds, x ≤ 25 * wide
  l0 : 1 ≤ life
  l1 : life ≤ 30
def sp_parts (K : PySem.W.Frag) : Sp := fun vs H Q _ => ∃ (h l : Addr) (most wide : Int), vs = [.ref h, .int most, .int wide] ∧ 1 ≤ most ∧ most ≤ 24 ∧ 1 ≤ wide ∧ wide ≤ 1000000000 ∧ HS H h l ∧
  ∀ (p pb pd : Addr) (bs ds : List Int) (life : Int) (H' : Hp), Dr h l H H' → wn H' (hl h l) p = some (.tup [.ref pb, .ref pd, .int life]) → Parts K (wn H' (hl h l)) pb pd bs ds life most wide → Q (.ref p) H'
theorem ok__law_parts (T : Txt K mg Z) : FnOk P w K mg base CX0 3 Z.f__law_parts Z.d__law_parts p__law_parts (sp_parts K) := by
  refine T.F__law_parts.ok sc__law_parts (fun vs H Q E h => ?_) (fun cdv Ar outer s H vs Q E hr h => ?_)
  · obtain ⟨a, l, most, wide, rfl, _⟩ := h
    rfl
  · obtain ⟨a, l, most, wide, rfl, m0, m1, w0, w1, hs, k⟩ := h
    refine ⟨_, (pss_cons (ps_set (i := 3) sc__law_parts.nd rfl (Or.inl rfl) (pe_op op_add pe_int (pe_call (ok__law_next T) (hr.mono (by decide)) (by rfl) T.g__law_next T.F__law_next.kp T.b__law_next .nil pass0 (pa_cons (pv 0) (pa_cons (pv 1) pa_nil)))))
      (pss_cons (ps_par (i := 4) (j := 5) rfl sc__law_parts.nd rfl rfl (by decide) rfl rfl (pa_cons (pe_call (ok__law_amounts T) (hr.mono (by decide)) (by rfl) T.g__law_amounts T.F__law_amounts.kp T.b__law_amounts .nil pass0 (pa_cons (pv 0) (pa_cons (pv 3) (pa_cons (pv 2) pa_nil)))) (pa_cons (pe_call (ok__law_amounts T) (hr.mono (by decide)) (by rfl) T.g__law_amounts T.F__law_amounts.kp T.b__law_amounts .nil pass0 (pa_cons (pv 0) (pa_cons (pv 3) (pa_cons (pv 2) pa_nil)))) pa_nil)) (by rfl))
      (pss_cons (ps_if (pt_cmpR op_eq (pe_call (ok__law_next T) (hr.mono (by decide)) (by rfl) T.g__law_next T.F__law_next.kp T.b__law_next .nil pass0 (pa_cons (pv 0) (pa_cons pe_int pa_nil))) pe_int (nomark _)) (pss_cons (ps_par (i := 6) (j := 7) rfl sc__law_parts.nd rfl rfl (by decide) rfl rfl (pa_cons (pe_call (ok__law_next T) (hr.mono (by decide)) (by rfl) T.g__law_next T.F__law_next.kp T.b__law_next .nil pass0 (pa_cons (pv 0) (pa_cons (pv 3) pa_nil))) (pa_cons (pe_op op_add (pe_op op_sub (pe_callB (r := rSumT K) (cr_sumT rfl) (by rfl) T.b_sum boot_sum (pa_cons (pv 5) pa_nil)) (pe_callB (r := rSumT K) (cr_sumT rfl) (by rfl) T.b_sum boot_sum (pa_cons (pv 4) pa_nil))) (pe_call (ok__law_next T) (hr.mono (by decide)) (by rfl) T.g__law_next T.F__law_next.kp T.b__law_next .nil pass0 (pa_cons (pv 0) (pa_cons pe_int pa_nil)))) pa_nil)) (by rfl))
      (pss_one (ps_set (i := 4) sc__law_parts.nd rfl (Or.inl rfl) (pe_op op_catA (pe_op op_catA (pe_slice (r := rSlA K) sl_tupA (pv 4) po_none (po_some (pv 6))) (pe_tup (pa_cons (pe_callB (r := rMax2) (call_max2 rfl) (by rfl) T.b_max boot_max (pa_cons pe_int (pa_cons (pe_callB (r := rMn) (call_min2 rfl) (by rfl) T.b_min boot_min (pa_cons (pe_op op_pow pe_int pe_int) (pa_cons (pe_op op_add (pe_ix (r := rIxT K) ix_tup (pv 4) (pv 6) (fun _ _ => rfl)) (pv 7)) pa_nil))) pa_nil))) pa_nil))) (pe_slice (r := rSlA K) sl_tupA (pv 4) (po_some (pe_op op_add (pv 6) pe_int)) po_none))))) pss_nil)
      (pss_one (ps_ret (pe_tup (pa_cons (pv 4) (pa_cons (pv 5) (pa_cons (pe_op op_add pe_int (pe_call (ok__law_next T) (hr.mono (by decide)) (by rfl) T.g__law_next T.F__law_next.kp T.b__law_next .nil pass0 (pa_cons (pv 0) (pa_cons (pe_ix (r := rIxL K) ix_list (pe_lst (pa_cons pe_int (pa_cons pe_int pa_nil))) (pe_call (ok__law_next T) (hr.mono (by decide)) (by rfl) T.g__law_next T.F__law_next.kp T.b__law_next .nil pass0 (pa_cons (pv 0) (pa_cons pe_int pa_nil))) (fun _ _ => rfl)) pa_nil)))) pa_nil))))))))), ?_⟩
    -- the count
    refine x_asgI (A := fun c => 1 ≤ c ∧ c ≤ most) hs (xi_op0 (g := fun i j => i + j) (A := fun i => i = 1) (B := fun i => 0 ≤ i ∧ i < most) (xi_ev ev_c rfl) ((xi_next (A := fun i => i = most) (fun G => ev_var rfl) (xi_ev (ev_var rfl) rfl) (fun i e => by omega)).imp fun v q => ⟨q.1, by obtain ⟨i, e, q⟩ := q.2; omega⟩) (fun i j hi hj => by omega)) fun c H1 d1 hc => ?_
    -- bakes, demands
    refine x_par d1.hs (x_amounts (n := c) (w := wide) (fun G => ev_var rfl) (ev_var rfl) (ev_var rfl) (by omega) (by omega) (by omega) w1) (x_amounts (n := c) (w := wide) (fun G => ev_var rfl) (ev_var rfl) (ev_var rfl) (by omega) (by omega) (by omega) w1) fun v v' H2 H3 d2 d3 ⟨pb, bs, e, hb, lb, bb⟩ ⟨pd, ds, e', hd, ld, dd⟩ => ?_
    subst e e'
    have hb3 := st_of (K := K) (d3.ex _ _ hb)
    have hd3 := st_of (K := K) hd
    have D3 := (d1.trans d2).trans d3
    have sd := sum_bound (xs := ds) (M := wide - 1) (by omega) (fun x hx => by have := dd x hx; omega)
    have sd2 : (ds.length : Int) * (wide - 1) ≤ 24 * (wide - 1) := Int.mul_le_mul_of_nonneg_right (by omega) (by omega)
    refine x_ifK (M := fun σ' H' => ∃ (pb' : Addr) (bs' : List Int) (u v : Option V), σ' = [some (.ref a), some (.int most), some (.int wide), some (.int c), some (.ref pb'), some (.ref pd), u, v] ∧ Dr a l H H' ∧ SqT K (wn H' (hl a l)) pb' (bs'.map V.int) ∧ SqT K (wn H' (hl a l)) pd (ds.map V.int) ∧
      (bs'.length : Int) = c ∧ ∀ x ∈ bs', 0 ≤ x ∧ x ≤ 1000000000 ∧ x ≤ 25 * wide) d3.hs (xt_test (xb_eq (A := fun _ => True) (B := fun _ => True) ((xi_next (A := fun i => i = 3) (fun G => ev_var rfl) (xi_ev ev_c rfl) (fun i e => by omega)).imp fun _ _ => trivial) (xi_ev (i := 0) ev_c trivial))) ?_ (fun H4 d4 fin => ?_) (fun H4 d4 fin => ?_)
    · rintro σ' H' ⟨pb', bs', u, v, rfl, dD, hb', hd', lb', bb'⟩
      refine ⟨_, rfl, _, rfl, ?_⟩
      refine xi_op0 (g := fun i j => i + j) (A := fun i => i = 1) (B := fun i => 0 ≤ i ∧ i < 30) (D := fun i => 1 ≤ i ∧ i ≤ 30) (xi_ev ev_c rfl) ((xi_next (A := fun i => i ∈ ([4, 30] : List Int)) (fun G => ev_var (i := 0) rfl) (xi_pick (K := K) (n := 2) (ns := [4, 30]) (B := fun i => 0 ≤ i ∧ i < 2) (el_lst (ea_cons ev_c (ea_cons ev_c ea_nil)) (by show 2 ≤ 100000; decide)) ((xi_next (A := fun i => i = 2) (fun G => ev_var (i := 0) rfl) (xi_ev ev_c rfl) (fun i e => by omega)).imp fun v q => ⟨q.1, by obtain ⟨i, e, q⟩ := q.2; omega⟩) (fun i q => by simpa using q)) (fun i hi => by simp at hi; omega)).imp fun v q => ⟨q.1, by obtain ⟨i, e, q⟩ := q.2; simp at e; omega⟩) (fun i j hi hj => by omega) H' (Dr.refl dD.hs) _ fun _ H7 d7 ⟨lf, e7, l7⟩ => ?_
      subst e7
      refine ⟨by show 3 ≤ sizeLine; decide, fun r hr => ?_⟩
      have d8 := Dr.of d7.hs (Ex.new (o := .tup [.ref pb', .ref pd, .int lf]) hr)
      have w78 := (d7.trans d8).ex
      refine k r pb' pd bs' ds lf _ (dD.trans (d7.trans d8)) (by rw [wn_ni (hl_new (G' := H7) d7.hs hr)]; exact upd_same) ⟨ex_t w78 hb', ex_t w78 hd', ⟨by omega, by omega, by omega, fun x hx => ⟨(bb' x hx).1, (bb' x hx).2.1⟩, fun x hx => by have := dd x hx; omega⟩, by omega, fun x hx => (bb' x hx).2.2, fun x hx => by have := dd x hx; omega, l7.1, l7.2⟩
    · have D4 := D3.trans d4
      have hb4 := ex_t d4.ex hb3
      have hd4 := ex_t d4.ex hd3
      refine x_par (P := fun v _ => ∃ i, v = .int i ∧ 0 ≤ i ∧ i < c) (Q := fun v _ => ∃ i, v = .int i ∧ i ≤ ds.sum - bs.sum + 2) d4.hs ((xi_next (A := fun i => i = c) (fun G => ev_var rfl) (xi_ev (ev_var rfl) rfl) (fun i e => by omega)).imp fun v q => ⟨q.1, by obtain ⟨i, e, q⟩ := q.2; omega⟩)
        (xi_op0 (g := fun i j => i + j) (A := fun i => i = ds.sum - bs.sum) (B := fun i => i < 3) (xi_ev (ev_op (ev_sumT (ev_var rfl) hd4) (ev_sumT (ev_var rfl) hb4) rv_I0) rfl) ((xi_next (A := fun i => i = 3) (fun G => ev_var rfl) (xi_ev ev_c rfl) (fun i e => by omega)).imp fun v q => by obtain ⟨i, e, q⟩ := q.2; omega) (fun i j hi hj => by omega)) fun v w H5 H6 d5 d6 ⟨kk, e5, k0, k1⟩ ⟨mo, e6, hmo⟩ => ?_
      subst e5 e6
      have D6 := D4.trans (d5.trans d6)
      have hb6 := ex_t (d5.trans d6).ex hb4
      have hd6 := ex_t (d5.trans d6).ex hd4
      obtain ⟨kn, rfl⟩ : ∃ kn : Nat, kk = (kn : Int) := ⟨kk.toNat, by omega⟩
      have p9 : (10 : Int) ^ (9 : Int).toNat = 1000000000 := by decide
      have hW := x_evW (K := K) (H := H6) (h := a) (l := l) (σ := [some (.ref a), some (.int most), some (.int wide), some (.int c), some (.ref pb), some (.ref pd), some (.int (kn : Int)), some (.int mo)])
        (ew_cat (ew_cat (ew_take (k := kn) (ew_of (ev_var (i := 4) rfl) hb6) (ev_var (i := 6) rfl)) (EvU.w (eu_tup (ea_cons (ev_maxi (i := 0) ev_c (ev_min2 (Ev.int_eq (ev_op (x := .int 10) (y := .int 9) ev_c ev_c (rv_I (C := CPow) (g := fun i j => .int (i ^ j.toNat)) ⟨by decide, by decide, by decide⟩)) p9) (ev_op (ev_ixT (K := K) (ev_var (i := 4) rfl) hb6 (ev_var (i := 6) rfl) (atI_mapI (by omega) (by omega))) (ev_var (i := 7) rfl) (rv_I0 (g := fun i j => .int (i + j)))))) ea_nil) (by show 1 ≤ 100000; decide))) (by simp; omega))
          (ew_drop (k := kn + 1) (ew_of (ev_var (i := 4) rfl) hb6) (Ev.int_eq (ev_op (ev_var (i := 6) rfl) (ev_c (v := .int 1)) (rv_I0 (g := fun i j => .int (i + j)))) (by omega))) (by simp; omega))
      refine hW H6 (Dr.refl d6.hs) _ fun v H7 d7 ⟨pb', e7, hb7⟩ => ?_
      subst e7
      have nb : bs.sum ≥ bs.getD kn 0 := getD_le_sum (fun x hx => (bb x hx).1) kn
      refine fin _ _ ⟨pb', bs.take kn ++ [max 0 (min 1000000000 (bs.getD kn 0 + mo))] ++ bs.drop (kn + 1), _, _, rfl, D6.trans d7, ?_, ex_t d7.ex hd6, ?_, ?_⟩
      · have z := hb7
        rw [← List.map_take, ← List.map_drop, Int.toNat_natCast] at z
        simpa using z
      · simp; omega
      · intro x hx
        rcases List.mem_append.mp hx with hx | hx
        · rcases List.mem_append.mp hx with hx | hx
          · have := bb x (List.mem_of_mem_take hx); omega
          · rw [List.mem_singleton.mp hx]; omega
        · have := bb x (List.mem_of_mem_drop hx); omega
    · exact fin _ _ ⟨pb, bs, _, _, rfl, D3.trans d4, ex_t d4.ex hb3, ex_t d4.ex hd3, lb, fun x hx => by have := bb x hx; omega⟩
end Sw
namespace Sw
open PySem PySem.Spec PyProof.Rows L2 Evl
local macro_rules | `(tactic| walk_at "ev") => `(tactic| first
  | exact ev_c
  | exact ev_var rfl
  | ((with_reducible show Ev (tCB rMax2 _) _ _ _); exact ev_maxi (by walk_at "ev") (by walk_at "ev"))
  | ((with_reducible show Ev (tCB rMn _) _ _ _); exact ev_min2 (by walk_at "ev") (by walk_at "ev"))
  | ((with_reducible show Ev (tUn _ _) _ _ _); exact ev_un (by walk_at "ev") ru_neg)
  | ((with_reducible show Ev (tFld _ _ _) _ _ _); exact ev_fldK (by walk_at "ev") (by assumption))
  | ((with_reducible show Ev (tOp (rI0 _) _ _) _ _ _); exact ev_op (by walk_at "ev") (by walk_at "ev") rv_I0)
  | ((with_reducible show Ev (tOp rEq _ _) _ _ _); exact ev_op (by walk_at "ev") (by walk_at "ev") (rv_eq rfl))
  | ((with_reducible show Ev (tOp rNe _ _) _ _ _); exact ev_op (by walk_at "ev") (by walk_at "ev") (rv_ne rfl)))

/-! ### isinstance, and two values that are alike -/
def Tyn (K : PySem.W.Frag) (H : Hp) (x : V) (n : String) : Prop := (∃ i, x = .int i ∧ n = "int") ∨ (x = .non ∧ n = "NoneType") ∨ (∃ a xs, x = .ref a ∧ SqT K H a xs ∧ n = "tuple") ∨ (∃ a xs, x = .ref a ∧ SqL K H a xs ∧ n = "list")
section
variable {K : PySem.W.Frag} {σ : L2.St} {H H' : Hp} {ta tb te tx : TE} {x y z v : V} {a b : Addr} {xs ys : List V} {n m : String} {r : Bool}
theorem Tyn.mono (e : Ex H H') (h : Tyn K H x n) : Tyn K H' x n := by
  rcases h with h | h | ⟨a, xs, h1, h2, h3⟩ | ⟨a, xs, h1, h2, h3⟩
  · exact .inl h
  · exact .inr (.inl h)
  · exact .inr (.inr (.inl ⟨a, xs, h1, ex_t e h2, h3⟩))
  · exact .inr (.inr (.inr ⟨a, xs, h1, ex_l e h2, h3⟩))
theorem Tyn.ty (h : Tyn K H x n) : TyX K H x (.type n) := by
  rcases h with ⟨i, rfl, rfl⟩ | ⟨rfl, rfl⟩ | ⟨a, xs, rfl, h2, rfl⟩ | ⟨a, xs, rfl, h2, rfl⟩
  · exact .base (.int i)
  · exact .base .non
  · rcases h2 with (h | ⟨o, h⟩) | ⟨o, its, k, h1, h2, _⟩
    · exact .base (.tup h)
    · exact .fTuple h
    · exact .kTuple h1 h2
  · rcases h2 with (h | ⟨o, h⟩) | ⟨o, its, k, h1, h2, _⟩
    · exact .base (.lst h)
    · exact .base (.frz h)
    · exact .kList h1 h2
theorem ev_isi (h : Ev ta σ H x) (ty : Tyn K H x n) (e : kitB n m = some r) : Ev (tCB (rIsi K) (tCons ta (tCons (tC (.ty m)) tNil))) σ H (.bl r) := fun H1 e1 Q q =>
  h H1 e1 _ fun H2 e2 => ⟨x, .ty m, .type n, .type m, r, rfl, .ty m, (ty.mono (e1.trans e2)).ty, kit_ty e, q H2 e2⟩
theorem ev_isiT {r1 r2 : Bool} (h : Ev ta σ H x) (ty : Tyn K H x n) (e : kitB n "tuple" = some r1) (e' : kitB n "list" = some r2) : Ev (tCB (rIsiT K) (tCons ta (tCons (tTup (tCons (tC (.ty "tuple")) (tCons (tC (.ty "list")) tNil))) tNil))) σ H (.bl (r1 || r2)) := fun H1 e1 Q q =>
  h H1 e1 _ fun H2 e2 => ⟨by show 2 ≤ sizeLine; decide, fun p hp => ⟨x, p, [.ty "tuple", .ty "list"], .type n, [.type "tuple", .type "list"], r1 || r2, rfl, upd_same, .cons (.ty _) (.cons (.ty _) .nil), (ty.mono ((e1.trans e2).trans (Ex.new hp))).ty, by
    refine kitAny_cons (kit_ty e) (fun h1 => ?_) (fun h1 => by rw [h1]; rfl)
    refine kitAny_cons (kit_ty e') (fun h2 => ?_) (fun h2 => by rw [h1, h2]; rfl)
    rw [h1, h2]; exact kitAny_nil, q _ (e2.trans (Ex.new hp))⟩⟩
end
def AlS (x y : V) : Prop := (∃ i, x = .int i ∧ y = .int i) ∨ (x = .non ∧ y = .non)
/-- x and y stand for equal data, at most n deep -/
def Alk (K : PySem.W.Frag) (H : Hp) : Nat → V → V → Prop
  | 0, x, y => AlS x y
  | n + 1, x, y => AlS x y ∨ ∃ a b xs ys, x = .ref a ∧ y = .ref b ∧ (SqT K H a xs ∧ SqT K H b ys ∨ SqL K H a xs ∧ SqL K H b ys) ∧ xs.length = ys.length ∧ xs.length ≤ 1000 ∧ ∀ (i : Nat) u v, xs[i]? = some u → ys[i]? = some v → Alk K H n u v
theorem Alk.mono {K : PySem.W.Frag} {H H' : Hp} (e : Ex H H') : ∀ n x y, Alk K H n x y → Alk K H' n x y
  | 0, _, _, h => h
  | n + 1, x, y, h => by
    rcases h with h | ⟨a, b, xs, ys, h1, h2, h3, h4, h5, h6⟩
    · exact .inl h
    · refine .inr ⟨a, b, xs, ys, h1, h2, ?_, h4, h5, fun i u v q1 q2 => Alk.mono e n u v (h6 i u v q1 q2)⟩
      rcases h3 with h3 | h3
      · exact .inl ⟨ex_t e h3.1, ex_t e h3.2⟩
      · exact .inr ⟨ex_l e h3.1, ex_l e h3.2⟩
def sp_alike (K : PySem.W.Frag) (n : Nat) : Sp := fun vs H Q _ => ∃ x y, vs = [x, y] ∧ Alk K H n x y ∧ RetV (.bl true) H Q
theorem spv_alike {K : PySem.W.Frag} {n : Nat} {H : Hp} {x y : V} (h : Alk K H n x y) : SpV (sp_alike K n) [x, y] H (.bl true) := fun _ e _ q _ => ⟨x, y, rfl, h.mono e, q⟩
variable {P : Program} {w : World} {K : PySem.W.Frag} {mg : Str → Option Value} {base : Heap} {Z : Ad}
theorem ok__law_alike (T : Txt K mg Z) (n : Nat) : FnOk P w K mg base CX0 (n + 1) Z.f__law_alike Z.d__law_alike p__law_alike (sp_alike K n) := by
  induction n with
  | zero =>
    refine T.F__law_alike.ok sc__law_alike (fun vs H Q E h => ?_) (fun cdv Ar outer s H vs Q E hr h => ?_)
    · obtain ⟨x, y, rfl, _⟩ := h
      rfl
    · obtain ⟨x, y, rfl, hA, k⟩ := h
      have hA : AlS x y := hA
      refine ⟨_, (pss_cons (ps_if (pt_val (pe_callB (r := rIsi K) (call_isi) (by rfl) T.b_isinstance boot_isinstance (pa_cons (pv 1) (pa_cons (pe_bltn (v := .ty "dict") (by rfl) T.b_dict boot_dict rfl) pa_nil)))) (pss_one ps_no) pss_nil)
      (pss_cons (ps_if (pt_val (pe_callB (r := rIsiT K) (call_isiT) (by rfl) T.b_isinstance boot_isinstance (pa_cons (pv 1) (pa_cons (pe_tup (pa_cons (pe_bltn (v := .ty "tuple") (by rfl) T.b_tuple boot_tuple rfl) (pa_cons (pe_bltn (v := .ty "list") (by rfl) T.b_list boot_list rfl) pa_nil))) pa_nil)))) (pss_cons ps_no
      (pss_cons ps_no
      (pss_one ps_no))) pss_nil)
      (pss_cons (ps_if (PW.pt (pw_or (pt_cmp (pc_isN (pv 1))) (pw_or1 (pt_val (pe_callB (r := rIsi K) (call_isi) (by rfl) T.b_isinstance boot_isinstance (pa_cons (pv 1) (pa_cons (pe_bltn (v := .ty "str") (by rfl) T.b_str boot_str rfl) pa_nil))))))) (pss_one (ps_ret (pe_and (pe_cmpR op_eq (pv 0) (pv 1) (nomark _)) (pe_one (pe_cmpR op_eq (pe_callB (r := rIsi K) (call_isi) (by rfl) T.b_isinstance boot_isinstance (pa_cons (pv 0) (pa_cons (pe_bltn (v := .ty "str") (by rfl) T.b_str boot_str rfl) pa_nil))) (pe_callB (r := rIsi K) (call_isi) (by rfl) T.b_isinstance boot_isinstance (pa_cons (pv 1) (pa_cons (pe_bltn (v := .ty "str") (by rfl) T.b_str boot_str rfl) pa_nil))) (nomark _)))))) pss_nil)
      (pss_one (ps_ret (pe_and (pe_callB (r := rIsi K) (call_isi) (by rfl) T.b_isinstance boot_isinstance (pa_cons (pv 0) (pa_cons (pe_bltn (v := .ty "int") (by rfl) T.b_int boot_int rfl) pa_nil))) (pe_and (pe_cmpR op_eq (pe_callB (r := rIsi K) (call_isi) (by rfl) T.b_isinstance boot_isinstance (pa_cons (pv 0) (pa_cons (pe_bltn (v := .ty "bool") (by rfl) T.b_bool boot_bool rfl) pa_nil))) (pe_callB (r := rIsi K) (call_isi) (by rfl) T.b_isinstance boot_isinstance (pa_cons (pv 1) (pa_cons (pe_bltn (v := .ty "bool") (by rfl) T.b_bool boot_bool rfl) pa_nil))) (nomark _)) (pe_one (pe_cmpR op_eq (pv 0) (pv 1) (nomark _)))))))))), ?_⟩
      rcases hA with ⟨i, rfl, rfl⟩ | ⟨rfl, rfl⟩
      · have ty : ∀ {G : Hp}, Tyn K G (.int i) "int" := .inl ⟨i, rfl, rfl⟩
        refine q_when (b := false) (et_B (ev_isi (n := "int") (ev_var rfl) ty (by decide +kernel))) (fun hb => nomatch hb) fun _ H1 e1 => ?_
        refine q_when (b := false) (et_B (ev_isiT (n := "int") (r1 := false) (r2 := false) (ev_var rfl) ty (by decide +kernel) (by decide +kernel))) (fun hb => nomatch hb) fun _ H2 e2 => ?_
        refine q_when (b := false) (et_or (a := false) (b := false) (et_B (ev_is (ev_isN (ev_var rfl)) rfl)) fun _ => et_B (ev_isi (n := "int") (ev_var rfl) ty (by decide +kernel))) (fun hb => nomatch hb) fun _ H3 e3 => ?_
        refine s_ret (v := .bl true) (ev_andV (a := true) (b := true) (ev_isi (n := "int") (ev_var rfl) ty (by decide +kernel)) fun _ => ev_andV (a := true) (b := true) (ev_is (ev_op (ev_isi (n := "int") (m := "bool") (r := false) (ev_var rfl) ty (by decide +kernel)) (ev_isi (n := "int") (m := "bool") (r := false) (ev_var rfl) ty (by decide +kernel)) (rv_eq rfl)) rfl) fun _ => ev_is (ev_op (ev_var rfl) (ev_var rfl) (rv_eq rfl)) (by simp)) fun H4 e4 => k H4 (((e1.trans e2).trans e3).trans e4)
      · have ty : ∀ {G : Hp}, Tyn K G .non "NoneType" := .inr (.inl ⟨rfl, rfl⟩)
        refine q_when (b := false) (et_B (ev_isi (n := "NoneType") (ev_var rfl) ty (by decide +kernel))) (fun hb => nomatch hb) fun _ H1 e1 => ?_
        refine q_when (b := false) (et_B (ev_isiT (n := "NoneType") (r1 := false) (r2 := false) (ev_var rfl) ty (by decide +kernel) (by decide +kernel))) (fun hb => nomatch hb) fun _ H2 e2 => ?_
        refine q_when (b := true) (et_or (a := true) (b := true) (et_B (ev_is (ev_isN (ev_var rfl)) rfl)) fun z => nomatch z) (fun _ H3 e3 => ?_) (fun hb => nomatch hb)
        refine s_ret (v := .bl true) (ev_andV (a := true) (b := true) (ev_is (ev_op (ev_var rfl) (ev_var rfl) (rv_eq rfl)) rfl) fun _ => ev_is (ev_op (ev_isi (n := "NoneType") (m := "str") (r := false) (ev_var rfl) ty (by decide +kernel)) (ev_isi (n := "NoneType") (m := "str") (r := false) (ev_var rfl) ty (by decide +kernel)) (rv_eq rfl)) rfl) fun H4 e4 => k H4 (((e1.trans e2).trans e3).trans e4)
  | succ n ih =>
    refine T.F__law_alike.ok sc__law_alike (fun vs H Q E h => ?_) (fun cdv Ar outer s H vs Q E hr h => ?_)
    · obtain ⟨x, y, rfl, _⟩ := h
      rfl
    · obtain ⟨x, y, rfl, hA, k⟩ := h
      rcases hA with hA | ⟨a, b, xs, ys, rfl, rfl, hS, hl, hz, hA⟩
      · refine ⟨_, (pss_cons (ps_if (pt_val (pe_callB (r := rIsi K) (call_isi) (by rfl) T.b_isinstance boot_isinstance (pa_cons (pv 1) (pa_cons (pe_bltn (v := .ty "dict") (by rfl) T.b_dict boot_dict rfl) pa_nil)))) (pss_one ps_no) pss_nil)
      (pss_cons (ps_if (pt_val (pe_callB (r := rIsiT K) (call_isiT) (by rfl) T.b_isinstance boot_isinstance (pa_cons (pv 1) (pa_cons (pe_tup (pa_cons (pe_bltn (v := .ty "tuple") (by rfl) T.b_tuple boot_tuple rfl) (pa_cons (pe_bltn (v := .ty "list") (by rfl) T.b_list boot_list rfl) pa_nil))) pa_nil)))) (pss_cons ps_no
      (pss_cons ps_no
      (pss_one ps_no))) pss_nil)
      (pss_cons (ps_if (PW.pt (pw_or (pt_cmp (pc_isN (pv 1))) (pw_or1 (pt_val (pe_callB (r := rIsi K) (call_isi) (by rfl) T.b_isinstance boot_isinstance (pa_cons (pv 1) (pa_cons (pe_bltn (v := .ty "str") (by rfl) T.b_str boot_str rfl) pa_nil))))))) (pss_one (ps_ret (pe_and (pe_cmpR op_eq (pv 0) (pv 1) (nomark _)) (pe_one (pe_cmpR op_eq (pe_callB (r := rIsi K) (call_isi) (by rfl) T.b_isinstance boot_isinstance (pa_cons (pv 0) (pa_cons (pe_bltn (v := .ty "str") (by rfl) T.b_str boot_str rfl) pa_nil))) (pe_callB (r := rIsi K) (call_isi) (by rfl) T.b_isinstance boot_isinstance (pa_cons (pv 1) (pa_cons (pe_bltn (v := .ty "str") (by rfl) T.b_str boot_str rfl) pa_nil))) (nomark _)))))) pss_nil)
      (pss_one (ps_ret (pe_and (pe_callB (r := rIsi K) (call_isi) (by rfl) T.b_isinstance boot_isinstance (pa_cons (pv 0) (pa_cons (pe_bltn (v := .ty "int") (by rfl) T.b_int boot_int rfl) pa_nil))) (pe_and (pe_cmpR op_eq (pe_callB (r := rIsi K) (call_isi) (by rfl) T.b_isinstance boot_isinstance (pa_cons (pv 0) (pa_cons (pe_bltn (v := .ty "bool") (by rfl) T.b_bool boot_bool rfl) pa_nil))) (pe_callB (r := rIsi K) (call_isi) (by rfl) T.b_isinstance boot_isinstance (pa_cons (pv 1) (pa_cons (pe_bltn (v := .ty "bool") (by rfl) T.b_bool boot_bool rfl) pa_nil))) (nomark _)) (pe_one (pe_cmpR op_eq (pv 0) (pv 1) (nomark _)))))))))), ?_⟩
        rcases hA with ⟨i, rfl, rfl⟩ | ⟨rfl, rfl⟩
        · have ty : ∀ {G : Hp}, Tyn K G (.int i) "int" := .inl ⟨i, rfl, rfl⟩
          refine q_when (b := false) (et_B (ev_isi (n := "int") (ev_var rfl) ty (by decide +kernel))) (fun hb => nomatch hb) fun _ H1 e1 => ?_
          refine q_when (b := false) (et_B (ev_isiT (n := "int") (r1 := false) (r2 := false) (ev_var rfl) ty (by decide +kernel) (by decide +kernel))) (fun hb => nomatch hb) fun _ H2 e2 => ?_
          refine q_when (b := false) (et_or (a := false) (b := false) (et_B (ev_is (ev_isN (ev_var rfl)) rfl)) fun _ => et_B (ev_isi (n := "int") (ev_var rfl) ty (by decide +kernel))) (fun hb => nomatch hb) fun _ H3 e3 => ?_
          refine s_ret (v := .bl true) (ev_andV (a := true) (b := true) (ev_isi (n := "int") (ev_var rfl) ty (by decide +kernel)) fun _ => ev_andV (a := true) (b := true) (ev_is (ev_op (ev_isi (n := "int") (m := "bool") (r := false) (ev_var rfl) ty (by decide +kernel)) (ev_isi (n := "int") (m := "bool") (r := false) (ev_var rfl) ty (by decide +kernel)) (rv_eq rfl)) rfl) fun _ => ev_is (ev_op (ev_var rfl) (ev_var rfl) (rv_eq rfl)) (by simp)) fun H4 e4 => k H4 (((e1.trans e2).trans e3).trans e4)
        · have ty : ∀ {G : Hp}, Tyn K G .non "NoneType" := .inr (.inl ⟨rfl, rfl⟩)
          refine q_when (b := false) (et_B (ev_isi (n := "NoneType") (ev_var rfl) ty (by decide +kernel))) (fun hb => nomatch hb) fun _ H1 e1 => ?_
          refine q_when (b := false) (et_B (ev_isiT (n := "NoneType") (r1 := false) (r2 := false) (ev_var rfl) ty (by decide +kernel) (by decide +kernel))) (fun hb => nomatch hb) fun _ H2 e2 => ?_
          refine q_when (b := true) (et_or (a := true) (b := true) (et_B (ev_is (ev_isN (ev_var rfl)) rfl)) fun z => nomatch z) (fun _ H3 e3 => ?_) (fun hb => nomatch hb)
          refine s_ret (v := .bl true) (ev_andV (a := true) (b := true) (ev_is (ev_op (ev_var rfl) (ev_var rfl) (rv_eq rfl)) rfl) fun _ => ev_is (ev_op (ev_isi (n := "NoneType") (m := "str") (r := false) (ev_var rfl) ty (by decide +kernel)) (ev_isi (n := "NoneType") (m := "str") (r := false) (ev_var rfl) ty (by decide +kernel)) (rv_eq rfl)) rfl) fun H4 e4 => k H4 (((e1.trans e2).trans e3).trans e4)
      · have hln : ((ys.length : Nat) : Int) = (xs.length : Int) := by omega
        rcases hS with ⟨ha, hb⟩ | ⟨ha, hb⟩
        · have tx : Tyn K H (.ref a) "tuple" := .inr (.inr (.inl ⟨a, xs, rfl, ha, rfl⟩))
          have ty : Tyn K H (.ref b) "tuple" := .inr (.inr (.inl ⟨b, ys, rfl, hb, rfl⟩))
          refine ⟨_, (pss_cons (ps_if (pt_val (pe_callB (r := rIsi K) (call_isi) (by rfl) T.b_isinstance boot_isinstance (pa_cons (pv 1) (pa_cons (pe_bltn (v := .ty "dict") (by rfl) T.b_dict boot_dict rfl) pa_nil)))) (pss_one ps_no) pss_nil)
      (pss_cons (ps_if (pt_val (pe_callB (r := rIsiT K) (call_isiT) (by rfl) T.b_isinstance boot_isinstance (pa_cons (pv 1) (pa_cons (pe_tup (pa_cons (pe_bltn (v := .ty "tuple") (by rfl) T.b_tuple boot_tuple rfl) (pa_cons (pe_bltn (v := .ty "list") (by rfl) T.b_list boot_list rfl) pa_nil))) pa_nil)))) (pss_cons (ps_if (PW.pt (pw_or (pt_not (pt_val (pe_callB (r := rIsiT K) (call_isiT) (by rfl) T.b_isinstance boot_isinstance (pa_cons (pv 0) (pa_cons (pe_tup (pa_cons (pe_bltn (v := .ty "tuple") (by rfl) T.b_tuple boot_tuple rfl) (pa_cons (pe_bltn (v := .ty "list") (by rfl) T.b_list boot_list rfl) pa_nil))) pa_nil))))) (pw_or1 (pt_cmpR op_ne (pe_callB (r := rIsi K) (call_isi) (by rfl) T.b_isinstance boot_isinstance (pa_cons (pv 0) (pa_cons (pe_bltn (v := .ty "list") (by rfl) T.b_list boot_list rfl) pa_nil))) (pe_callB (r := rIsi K) (call_isi) (by rfl) T.b_isinstance boot_isinstance (pa_cons (pv 1) (pa_cons (pe_bltn (v := .ty "list") (by rfl) T.b_list boot_list rfl) pa_nil))) (nomark _))))) (pss_one (ps_ret pe_bl)) pss_nil)
      (pss_cons (ps_if (pt_cmpR op_ne (pe_callB (r := rLenS K) (call_len_seq) (by rfl) T.b_len boot_len (pa_cons (pv 0) pa_nil)) (pe_callB (r := rLenS K) (call_len_seq) (by rfl) T.b_len boot_len (pa_cons (pv 1) pa_nil)) (nomark _)) (pss_one (ps_ret pe_bl)) pss_nil)
      (pss_one (ps_ret (pe_cmpR (op_eqD hr.units) (pe_lc (own := [("_law_k", 2)]) rfl sc__law_alike.nd (pi_range1 (by rfl) T.b_range (pa_cons (pe_callB (r := rLenS K) (call_len_seq) (by rfl) T.b_len boot_len (pa_cons (pv 1) pa_nil)) pa_nil)) (blkOk_by (own := [("_law_k", 2)]) (N := n__law_alike) (sc := defScope s__law_alike) (scope := { kind := PySem.ScopeKind.function, names := [ (PySem.Str.ofString ".0", PySem.NameKind.local), (PySem.Str.ofString "_law_k", PySem.NameKind.local), (PySem.Str.ofString "_law_alike", PySem.NameKind.globalImplicit), (PySem.Str.ofString "_law_due", PySem.NameKind.free), (PySem.Str.ofString "_law_found", PySem.NameKind.free)], isGenerator := false, isCoroutine := false, more := [] : PySem.Scope }) (by decide +kernel)) (fun _ _ _ _ _ => (pg_name (i := 2) sc__law_alike.nd rfl (Or.inl rfl))) (fun _ _ _ _ _ => (pts_one (pt_not (pt_val (pe_call ih hr (by rfl) T.g__law_alike T.F__law_alike.kp T.b__law_alike .nil pass0 (pa_cons (pe_ix (r := rIxT K) ix_tup (pv 0) (pv 2) (fun _ _ => rfl)) (pa_cons (pe_ix (r := rIxT K) ix_tup (pv 1) (pv 2) (fun _ _ => rfl)) pa_nil))))))) (fun _ _ _ _ _ => (pv 2))) (pe_lst pa_nil) (nomark _)))))) pss_nil)
      (pss_cons (ps_if (PW.pt (pw_or (pt_cmp (pc_isN (pv 1))) (pw_or1 (pt_val (pe_callB (r := rIsi K) (call_isi) (by rfl) T.b_isinstance boot_isinstance (pa_cons (pv 1) (pa_cons (pe_bltn (v := .ty "str") (by rfl) T.b_str boot_str rfl) pa_nil))))))) (pss_one (ps_ret (pe_and (pe_cmpR op_eq (pv 0) (pv 1) (nomark _)) (pe_one (pe_cmpR op_eq (pe_callB (r := rIsi K) (call_isi) (by rfl) T.b_isinstance boot_isinstance (pa_cons (pv 0) (pa_cons (pe_bltn (v := .ty "str") (by rfl) T.b_str boot_str rfl) pa_nil))) (pe_callB (r := rIsi K) (call_isi) (by rfl) T.b_isinstance boot_isinstance (pa_cons (pv 1) (pa_cons (pe_bltn (v := .ty "str") (by rfl) T.b_str boot_str rfl) pa_nil))) (nomark _)))))) pss_nil)
      (pss_one (ps_ret (pe_and (pe_callB (r := rIsi K) (call_isi) (by rfl) T.b_isinstance boot_isinstance (pa_cons (pv 0) (pa_cons (pe_bltn (v := .ty "int") (by rfl) T.b_int boot_int rfl) pa_nil))) (pe_and (pe_cmpR op_eq (pe_callB (r := rIsi K) (call_isi) (by rfl) T.b_isinstance boot_isinstance (pa_cons (pv 0) (pa_cons (pe_bltn (v := .ty "bool") (by rfl) T.b_bool boot_bool rfl) pa_nil))) (pe_callB (r := rIsi K) (call_isi) (by rfl) T.b_isinstance boot_isinstance (pa_cons (pv 1) (pa_cons (pe_bltn (v := .ty "bool") (by rfl) T.b_bool boot_bool rfl) pa_nil))) (nomark _)) (pe_one (pe_cmpR op_eq (pv 0) (pv 1) (nomark _)))))))))), ?_⟩
          refine q_when (b := false) (et_B (ev_isi (n := "tuple") (ev_var rfl) ty (by decide +kernel))) (fun hb => nomatch hb) fun _ H1 e1 => ?_
          refine q_when (b := true) (et_B (ev_isiT (n := "tuple") (r1 := true) (r2 := false) (ev_var rfl) (ty.mono e1) (by decide +kernel) (by decide +kernel))) (fun _ H2 e2 => ?_) (fun hb => nomatch hb)
          have e12 := e1.trans e2
          refine q_when (b := false) (et_or (a := false) (b := false) (et_not (a := true) (et_B (ev_isiT (n := "tuple") (r1 := true) (r2 := false) (ev_var rfl) (tx.mono e12) (by decide +kernel) (by decide +kernel)))) fun _ => et_test (ev_is (ev_op (ev_isi (n := "tuple") (m := "list") (r := false) (ev_var rfl) (tx.mono e12) (by decide +kernel)) (ev_isi (n := "tuple") (m := "list") (r := false) (ev_var rfl) (ty.mono e12) (by decide +kernel)) (rv_ne rfl)) rfl)) (fun hb => nomatch hb) fun _ H3 e3 => ?_
          have e13 := e12.trans e3
          refine q_when (b := false) (et_test (ev_is (ev_op (ev_lenT (ev_var rfl) (ex_t e13 ha)) (Ev.int_eq (ev_lenT (ev_var rfl) (ex_t e13 hb)) hln) (rv_ne rfl)) (by simp))) (fun hb => nomatch hb) fun _ H4 e4 => ?_
          have e14 := e13.trans e4
          refine s_ret (v := .bl true) (ev_eqNil (xs := given (ys.length : Int).toNat (fun _ => false) (fun i => .int (i : Int))) (el_lcR1 (n := (ys.length : Int)) (fun _ => false) _ (ea_cons (ev_lenT (ev_var rfl) (ex_t e14 hb)) ea_nil) ⟨by omega, by omega⟩ (fun _ => rfl) (fun i G e5 hi => ?_) (fun i G e5 hi hf => nomatch hf)) (el_lst ea_nil (by show 0 ≤ 100000; decide)) (given_none fun _ _ => rfl)) fun H5 e5 => k H5 (e14.trans e5)
          have hx : (i : Nat) < xs.length := by omega
          have hy : (i : Nat) < ys.length := by omega
          refine et_not (a := true) (et_B (ev_call (vs := [xs[i], ys[i]]) (ea_cons (ev_ixT (ev_var rfl) (ex_t (e14.trans e5) ha) (ev_var rfl) (atI_nat (by simp))) (ea_cons (ev_ixT (ev_var rfl) (ex_t (e14.trans e5) hb) (ev_var rfl) (atI_nat (by simp))) ea_nil)) (spv_alike ?_)))
          exact (hA i _ _ (by simp) (by simp)).mono (e14.trans e5)
        · have tx : Tyn K H (.ref a) "list" := .inr (.inr (.inr ⟨a, xs, rfl, ha, rfl⟩))
          have ty : Tyn K H (.ref b) "list" := .inr (.inr (.inr ⟨b, ys, rfl, hb, rfl⟩))
          refine ⟨_, (pss_cons (ps_if (pt_val (pe_callB (r := rIsi K) (call_isi) (by rfl) T.b_isinstance boot_isinstance (pa_cons (pv 1) (pa_cons (pe_bltn (v := .ty "dict") (by rfl) T.b_dict boot_dict rfl) pa_nil)))) (pss_one ps_no) pss_nil)
      (pss_cons (ps_if (pt_val (pe_callB (r := rIsiT K) (call_isiT) (by rfl) T.b_isinstance boot_isinstance (pa_cons (pv 1) (pa_cons (pe_tup (pa_cons (pe_bltn (v := .ty "tuple") (by rfl) T.b_tuple boot_tuple rfl) (pa_cons (pe_bltn (v := .ty "list") (by rfl) T.b_list boot_list rfl) pa_nil))) pa_nil)))) (pss_cons (ps_if (PW.pt (pw_or (pt_not (pt_val (pe_callB (r := rIsiT K) (call_isiT) (by rfl) T.b_isinstance boot_isinstance (pa_cons (pv 0) (pa_cons (pe_tup (pa_cons (pe_bltn (v := .ty "tuple") (by rfl) T.b_tuple boot_tuple rfl) (pa_cons (pe_bltn (v := .ty "list") (by rfl) T.b_list boot_list rfl) pa_nil))) pa_nil))))) (pw_or1 (pt_cmpR op_ne (pe_callB (r := rIsi K) (call_isi) (by rfl) T.b_isinstance boot_isinstance (pa_cons (pv 0) (pa_cons (pe_bltn (v := .ty "list") (by rfl) T.b_list boot_list rfl) pa_nil))) (pe_callB (r := rIsi K) (call_isi) (by rfl) T.b_isinstance boot_isinstance (pa_cons (pv 1) (pa_cons (pe_bltn (v := .ty "list") (by rfl) T.b_list boot_list rfl) pa_nil))) (nomark _))))) (pss_one (ps_ret pe_bl)) pss_nil)
      (pss_cons (ps_if (pt_cmpR op_ne (pe_callB (r := rLenS K) (call_len_seq) (by rfl) T.b_len boot_len (pa_cons (pv 0) pa_nil)) (pe_callB (r := rLenS K) (call_len_seq) (by rfl) T.b_len boot_len (pa_cons (pv 1) pa_nil)) (nomark _)) (pss_one (ps_ret pe_bl)) pss_nil)
      (pss_one (ps_ret (pe_cmpR (op_eqD hr.units) (pe_lc (own := [("_law_k", 2)]) rfl sc__law_alike.nd (pi_range1 (by rfl) T.b_range (pa_cons (pe_callB (r := rLenS K) (call_len_seq) (by rfl) T.b_len boot_len (pa_cons (pv 1) pa_nil)) pa_nil)) (blkOk_by (own := [("_law_k", 2)]) (N := n__law_alike) (sc := defScope s__law_alike) (scope := { kind := PySem.ScopeKind.function, names := [ (PySem.Str.ofString ".0", PySem.NameKind.local), (PySem.Str.ofString "_law_k", PySem.NameKind.local), (PySem.Str.ofString "_law_alike", PySem.NameKind.globalImplicit), (PySem.Str.ofString "_law_due", PySem.NameKind.free), (PySem.Str.ofString "_law_found", PySem.NameKind.free)], isGenerator := false, isCoroutine := false, more := [] : PySem.Scope }) (by decide +kernel)) (fun _ _ _ _ _ => (pg_name (i := 2) sc__law_alike.nd rfl (Or.inl rfl))) (fun _ _ _ _ _ => (pts_one (pt_not (pt_val (pe_call ih hr (by rfl) T.g__law_alike T.F__law_alike.kp T.b__law_alike .nil pass0 (pa_cons (pe_ix (r := rIxL K) ix_list (pv 0) (pv 2) (fun _ _ => rfl)) (pa_cons (pe_ix (r := rIxL K) ix_list (pv 1) (pv 2) (fun _ _ => rfl)) pa_nil))))))) (fun _ _ _ _ _ => (pv 2))) (pe_lst pa_nil) (nomark _)))))) pss_nil)
      (pss_cons (ps_if (PW.pt (pw_or (pt_cmp (pc_isN (pv 1))) (pw_or1 (pt_val (pe_callB (r := rIsi K) (call_isi) (by rfl) T.b_isinstance boot_isinstance (pa_cons (pv 1) (pa_cons (pe_bltn (v := .ty "str") (by rfl) T.b_str boot_str rfl) pa_nil))))))) (pss_one (ps_ret (pe_and (pe_cmpR op_eq (pv 0) (pv 1) (nomark _)) (pe_one (pe_cmpR op_eq (pe_callB (r := rIsi K) (call_isi) (by rfl) T.b_isinstance boot_isinstance (pa_cons (pv 0) (pa_cons (pe_bltn (v := .ty "str") (by rfl) T.b_str boot_str rfl) pa_nil))) (pe_callB (r := rIsi K) (call_isi) (by rfl) T.b_isinstance boot_isinstance (pa_cons (pv 1) (pa_cons (pe_bltn (v := .ty "str") (by rfl) T.b_str boot_str rfl) pa_nil))) (nomark _)))))) pss_nil)
      (pss_one (ps_ret (pe_and (pe_callB (r := rIsi K) (call_isi) (by rfl) T.b_isinstance boot_isinstance (pa_cons (pv 0) (pa_cons (pe_bltn (v := .ty "int") (by rfl) T.b_int boot_int rfl) pa_nil))) (pe_and (pe_cmpR op_eq (pe_callB (r := rIsi K) (call_isi) (by rfl) T.b_isinstance boot_isinstance (pa_cons (pv 0) (pa_cons (pe_bltn (v := .ty "bool") (by rfl) T.b_bool boot_bool rfl) pa_nil))) (pe_callB (r := rIsi K) (call_isi) (by rfl) T.b_isinstance boot_isinstance (pa_cons (pv 1) (pa_cons (pe_bltn (v := .ty "bool") (by rfl) T.b_bool boot_bool rfl) pa_nil))) (nomark _)) (pe_one (pe_cmpR op_eq (pv 0) (pv 1) (nomark _)))))))))), ?_⟩
          refine q_when (b := false) (et_B (ev_isi (n := "list") (ev_var rfl) ty (by decide +kernel))) (fun hb => nomatch hb) fun _ H1 e1 => ?_
          refine q_when (b := true) (et_B (ev_isiT (n := "list") (r1 := false) (r2 := true) (ev_var rfl) (ty.mono e1) (by decide +kernel) (by decide +kernel))) (fun _ H2 e2 => ?_) (fun hb => nomatch hb)
          have e12 := e1.trans e2
          refine q_when (b := false) (et_or (a := false) (b := false) (et_not (a := true) (et_B (ev_isiT (n := "list") (r1 := false) (r2 := true) (ev_var rfl) (tx.mono e12) (by decide +kernel) (by decide +kernel)))) fun _ => et_test (ev_is (ev_op (ev_isi (n := "list") (m := "list") (r := true) (ev_var rfl) (tx.mono e12) (by decide +kernel)) (ev_isi (n := "list") (m := "list") (r := true) (ev_var rfl) (ty.mono e12) (by decide +kernel)) (rv_ne rfl)) rfl)) (fun hb => nomatch hb) fun _ H3 e3 => ?_
          have e13 := e12.trans e3
          refine q_when (b := false) (et_test (ev_is (ev_op (ev_len (ev_var rfl) (ex_l e13 ha)) (Ev.int_eq (ev_len (ev_var rfl) (ex_l e13 hb)) hln) (rv_ne rfl)) (by simp))) (fun hb => nomatch hb) fun _ H4 e4 => ?_
          have e14 := e13.trans e4
          refine s_ret (v := .bl true) (ev_eqNil (xs := given (ys.length : Int).toNat (fun _ => false) (fun i => .int (i : Int))) (el_lcR1 (n := (ys.length : Int)) (fun _ => false) _ (ea_cons (ev_len (ev_var rfl) (ex_l e14 hb)) ea_nil) ⟨by omega, by omega⟩ (fun _ => rfl) (fun i G e5 hi => ?_) (fun i G e5 hi hf => nomatch hf)) (el_lst ea_nil (by show 0 ≤ 100000; decide)) (given_none fun _ _ => rfl)) fun H5 e5 => k H5 (e14.trans e5)
          have hx : (i : Nat) < xs.length := by omega
          have hy : (i : Nat) < ys.length := by omega
          refine et_not (a := true) (et_B (ev_call (vs := [xs[i], ys[i]]) (ea_cons (ev_ixL (ev_var rfl) (ex_l (e14.trans e5) ha) (ev_var rfl) (atI_nat (by simp))) (ea_cons (ev_ixL (ev_var rfl) (ex_l (e14.trans e5) hb) (ev_var rfl) (atI_nat (by simp))) ea_nil)) (spv_alike ?_)))
          exact (hA i _ _ (by simp) (by simp)).mono (e14.trans e5)
end Sw
namespace Sw
open PySem PySem.Spec PyProof.Rows L2 Evl
local macro_rules | `(tactic| walk_at "ev") => `(tactic| first
  | exact ev_c
  | exact ev_var rfl
  | ((with_reducible show Ev (tCB rMax2 _) _ _ _); exact ev_maxi (by walk_at "ev") (by walk_at "ev"))
  | ((with_reducible show Ev (tCB rMn _) _ _ _); exact ev_min2 (by walk_at "ev") (by walk_at "ev"))
  | ((with_reducible show Ev (tUn _ _) _ _ _); exact ev_un (by walk_at "ev") ru_neg)
  | ((with_reducible show Ev (tFld _ _ _) _ _ _); exact ev_fldK (by walk_at "ev") (by assumption))
  | ((with_reducible show Ev (tOp (rI0 _) _ _) _ _ _); exact ev_op (by walk_at "ev") (by walk_at "ev") rv_I0)
  | ((with_reducible show Ev (tOp rEq _ _) _ _ _); exact ev_op (by walk_at "ev") (by walk_at "ev") (rv_eq rfl))
  | ((with_reducible show Ev (tOp rNe _ _) _ _ _); exact ev_op (by walk_at "ev") (by walk_at "ev") (rv_ne rfl)))

section
variable {K : PySem.W.Frag} {Z : Ad} {σ : L2.St} {H H' : Hp} {ta tb tc te tx : TE} {x y z v : V} {a b h l : Addr} {xs ys : List V} {A B C D : Int → Prop} {i j : Int} {bs ds : List Int} {life : Int} {k t : Nat}
theorem ev_neNil (ha : EvL ta σ H xs) (hb : EvL tb σ H []) (hx : xs = []) : Ev (tOp (rNeD K) ta tb) σ H (.bl false) := ev_opLL ha hb fun p q H1 hp hq _ => fun H2 e2 Q k => by
  subst hx
  exact ⟨.list [], .list [], .lst (sq_of (e2 _ _ hp)) .nil, .lst (sq_of (e2 _ _ hq)) .nil, by decide, by decide, by
    have : (!PyData.eqv (.list []) (.list [])) = false := by decide
    rw [this]; exact k H2 (Ex.refl _)⟩
theorem spv_Bstock (hB : BakAt K Z H b bs ds life k) (ht : (t : Int) ≤ 1000000000000000000) : SpV (sp_Bstock K Z) [.ref b, .int (t : Int)] H (.int (dayS bs ds (keepL bs life) t)) := fun _ e _ q _ => ⟨b, bs, ds, life, k, t, rfl, ht, hB.mono e, q⟩
theorem spv_Bday {j : Nat} (hB : BakAt K Z H b bs ds life k) (ht : (t : Int) ≤ 1000000000000000000) : SpV (sp_Bday K Z j) [.ref b, .int (t : Int)] H (.int ([solS bs ds (keepL bs life) t, misS bs ds (keepL bs life) t, thrS bs ds (keepL bs life) t].getD j 0)) := fun _ e _ q _ => ⟨b, bs, ds, life, k, t, rfl, ht, hB.mono e, q⟩
theorem spu_Btot (hB : BakAt K Z H b bs ds life k) (ht : (t : Int) ≤ 1000000000000000000) : SpU (sp_Btot K Z) [.ref b, .int (t : Int)] H ((totS bs ds (keepL bs life) t).map V.int) := fun _ e _ q _ => ⟨b, bs, ds, life, k, t, rfl, ht, hB.mono e, q⟩
theorem ew_long {E : XK} (h : Ev ta σ H (.ref b)) (hB : BakAt K Z H b bs ds life k) : EvW K (tProp Z.c_Bakery (sp_Blong K Z) [] E ta) σ H ((longI bs ds (lmOf bs ds (keepL bs life))).map V.int) := fun H1 e Q q =>
  h H1 e _ fun H2 e2 => let ⟨dx, fs, h1⟩ := hB.inst; ⟨b, dx, fs, rfl, e2 _ _ (e _ _ h1), b, bs, ds, life, k, rfl, hB.mono (e.trans e2), fun p H3 e3 h3 => q p H3 (e2.trans e3) h3⟩
theorem ev_ixW (h : EvW K ta σ H xs) (hb : Ev tb σ H (.int i)) (ha : atI xs i = some v) : Ev (tOp (rIxT K) ta tb) σ H v := fun H1 e Q q =>
  h H1 e _ fun p H2 e2 hp => hb H2 (e.trans e2) _ fun H3 e3 => rv_ixT (K := K) (ex_t e3 hp) ha H3 (Ex.refl H3) Q fun H4 e4 => q H4 ((e2.trans e3).trans e4)
theorem ev_callU {sp : Sp} {E : XK} (ha : EvU ta σ H xs) (hb : Ev tb σ H y) (hs : ∀ p H1, Ex H H1 → H1 p = some (.tup xs) → SpV sp [.ref p, y] H1 z) : Ev (tCall sp [] E (tCons ta (tCons tb tNil))) σ H z := fun H1 e Q q =>
  ha H1 e _ fun p H2 _ e2 hp => hb H2 (e.trans e2) _ fun H3 e3 => hs p H3 ((e.trans e2).trans e3) (e3 _ _ hp) H3 (Ex.refl _) Q (fun H4 e4 => q H4 ((e2.trans e3).trans e4)) E
theorem ev_callL {sp : Sp} {E : XK} (ha : EvL ta σ H xs) (hb : Ev tb σ H y) (hs : ∀ p H1, Ex H H1 → H1 p = some (.lst xs) → SpV sp [.ref p, y] H1 z) : Ev (tCall sp [] E (tCons ta (tCons tb tNil))) σ H z := fun H1 e Q q =>
  ha H1 e _ fun p H2 _ e2 hp => hb H2 (e.trans e2) _ fun H3 e3 => hs p H3 ((e.trans e2).trans e3) (e3 _ _ hp) H3 (Ex.refl _) Q (fun H4 e4 => q H4 ((e2.trans e3).trans e4)) E
/-- a bakery, its size, the settled day of another one like it -/
theorem q_bak3 {t t' : TA} {tl : TE} {E E' E'' : XK} {pb pd : Addr} {i1 i2 i3 : Nat} {D : Ends} {tz : TS} (hs : HS H h l) (ht : EvA t σ H [.ref pb, .ref pd, .int life]) (ht' : EvA t' σ H [.ref pb, .ref pd, .int life]) (htl : Ev tl σ H (.ref pb))
    (hb : SqT K (wn H (hl h l)) pb (bs.map V.int)) (hd : SqT K (wn H (hl h l)) pd (ds.map V.int)) (gd : Good bs ds) (l0 : 1 ≤ life) (l1 : life ≤ 30)
    (k : ∀ (b : Addr) (i i2' : Nat) (H' : Hp), Dr h l H H' → BakAt K Z (wn H' (hl h l)) b bs ds life i → SetAt bs ds (keepL bs life) (gainOf bs ds) (firstOf bs ds (keepL bs life)) (fullOf bs ds (keepL bs life)) i2' →
      tz D (((σ.set i1 (some (.ref b))).set i2 (some (.int (bs.length : Int)))).set i3 (some (.int (grw bs ds (keepL bs life) * (bs.length : Int) + (i2' : Int))))) H') :
    tSeq (tAsg (tTup (tCons (tMake Z.c_Bakery (sp_Binit K Z) [] E t) (tCons (tCB (rLenS K) (tCons tl tNil)) (tCons (tProp Z.c_Bakery (sp_Bset K Z) [] E' (tMake Z.c_Bakery (sp_Binit K Z) [] E'' t')) tNil)))) (gTup K 3 (gCons (gName i1) (gCons (gName i2) (gCons (gName i3) gNil))))) tz D σ H := by
  dsimp only [tSeq, tAsg, tTup, tCons, tCB, tNil, tProp, gTup, gCons, gName, gNil]
  refine er_bakery ht hb hd gd l0 l1 H (Ex.refl _) hs.kn _ fun b H3 hb0 e3 ⟨i, hB⟩ => ?_
  refine htl H3 e3 _ fun H4 e4 => ⟨pb, _, rfl, .inr (ex_t (wn_ex.trans (e3.trans e4)) hb), ?_⟩
  refine er_bakery (ht'.mono (e3.trans e4)) (ex_t (wn_mono (e3.trans e4)) hb) (ex_t (wn_mono (e3.trans e4)) hd) gd l0 l1 H4 (Ex.refl _) (hs.mono (e3.trans e4)).kn _ fun b2 H5 hb1 e5 ⟨j2, hB2⟩ => ?_
  obtain ⟨dx2, fs2, hi2⟩ := (hB2.mono wn_ex).inst
  refine ⟨b2, dx2, fs2, rfl, hi2, b2, bs, ds, life, j2, rfl, hB2.mono wn_ex, fun H6 e6 => ?_⟩
  refine ⟨by show 3 ≤ sizeLine; decide, fun r hr => ?_⟩
  refine ⟨r, _, rfl, st_of upd_same, rfl, _, _, rfl, _, _, rfl, _, _, rfl, rfl, ?_⟩
  have e36 := ((e3.trans e4).trans e5).trans e6
  have hlen : ((bs.map V.int).length : Int) = (bs.length : Int) := by rw [List.length_map]
  rw [hlen]
  exact k b i j2 _ ((Dr.of hs e36).trans (Dr.of (hs.mono e36) (Ex.new hr))) (hB.mono ((wn_mono ((e4.trans e5).trans e6)).trans (wn_mono (Ex.new hr)))) hB2.hi
/-- two lists of numbers, joined -/
theorem x_catL {A B : List Int → Prop} (ha : EvX ta σ H h l (LI A)) (hb : EvX tb σ H h l (LI B)) (hz : ∀ as bs, A as → B bs → as.length + bs.length ≤ 100000) : EvX (tOp rCat ta tb) σ H h l (LI fun ns => ∃ as bs, ns = as ++ bs ∧ A as ∧ B bs) := fun H1 d Q q =>
  ha H1 d _ fun _ H2 d2 ⟨p, as, e, hp, hA⟩ => hb H2 (d.trans d2) _ fun _ H3 d3 ⟨r, bs, e', hr, hB⟩ => by
    subst e e'
    have hp3 := wn_ex _ _ (d3.ex _ _ hp)
    refine ⟨p, r, as.map V.int, bs.map V.int, rfl, rfl, hp3, wn_ex _ _ hr, sz_of (by rw [List.length_map, List.length_map]; exact hz as bs hA hB), fun t ht => ?_⟩
    have d4 := Dr.of d3.hs (Ex.new (o := .lst (as.map V.int ++ bs.map V.int)) ht)
    exact q _ _ ((d2.trans d3).trans d4) ⟨t, as ++ bs, rfl, by rw [wn_ni (hl_new (G' := H3) d3.hs ht), upd_same, List.map_append], as, bs, rfl, hA, hB⟩
/-- a list with no draws -/
theorem x_li {ns : List Int} {A : List Int → Prop} (hv : EvL te σ (wn H (hl h l)) (ns.map V.int)) (hA : A ns) : EvX te σ H h l (LI A) := (x_evL hv).imp fun v G ⟨p, e, hp⟩ => ⟨p, ns, e, hp, hA⟩
/-- no item of the list passes the test -/
theorem ev_noneL {tl : TE} {t : TT} {jj : Nat} {vs : List Nat} {p : Addr} {ns : List Int} (hv : Ev tl σ H (.ref p)) (hx : SqL K H p (ns.map V.int)) (hz : ns.length ≤ 40000) (hw : ∀ x, wipe ((wipe σ vs).set jj (some x)) vs = wipe σ vs)
    (ht : ∀ (n : Int) H1, Ex H H1 → n ∈ ns → EvT t ((wipe σ vs).set jj (some (.int n))) H1 false) : Ev (tOp (rNeD K) (tLc (iList K tl) (gName jj) t te vs) (tLst tNil)) σ H (.bl false) :=
  ev_neNil (el_lcL (fun _ => false) (fun _ => .non) hv hx (by rw [List.length_map]; exact hz) hw (fun i x H1 e hi => by
    obtain ⟨rfl, hlt⟩ := at_map hi
    refine ht _ H1 e ?_
    have e2 : ns.getD i 0 = ns[i] := by simp [List.getD, hlt]
    rw [e2]; exact List.getElem_mem hlt) (fun i x H1 e hi hf => nomatch hf)) (el_lst ea_nil (by show 0 ≤ 100000; decide)) (given_none fun _ _ => rfl)
end
variable {P : Program} {w : World} {K : PySem.W.Frag} {mg : Str → Option Value} {base : Heap} {Z : Ad}
def sp_law (K : PySem.W.Frag) : Sp := fun vs H Q _ => ∃ (a : Addr) (ns : List Int), vs = [.ref a] ∧ SqL K H a (ns.map V.int) ∧ ns.length ≤ 63 ∧ ∀ H', Q (.bl true) H'
theorem pw18 : (10 : Int) ^ (18 : Int).toNat = 1000000000000000000 := by decide
theorem pw15 : (10 : Int) ^ (15 : Int).toNat = 1000000000000000 := by decide
theorem pw14 : (10 : Int) ^ (14 : Int).toNat = 100000000000000 := by decide
theorem pw12 : (10 : Int) ^ (12 : Int).toNat = 1000000000000 := by decide
theorem pw17' : (10 : Int) ^ (17 : Int).toNat = 100000000000000000 := by decide
theorem pw9 : (10 : Int) ^ (9 : Int).toNat = 1000000000 := by decide
theorem ev_pow {σ : L2.St} {H : Hp} {n m : Int} (hc : CPow 10 n) (e : (10 : Int) ^ n.toNat = m) : Ev (tOp (rI CPow fun i j => .int (i ^ j.toNat)) (tC (.int 10)) (tC (.int n))) σ H (.int m) := Ev.int_eq (ev_op ev_c ev_c (rv_I hc)) e
end Sw
namespace Sw
/-! ### the newest loaves; multiplied amounts; known courses -/
section
variable {bs ds ks : List Int} {m life : Int}
def bkI (bs : List Int) (d : Int) : Int := bs.getD ((d % (bs.length : Int)).toNat) 0
def sumNew (bs : List Int) : Nat → Int → Int
  | 0, _ => 0
  | f + 1, d => bkI bs (d - 1) + sumNew bs f (d - 1)
def newest (bs : List Int) : Nat → Int → Int → List (Int × Int)
  | 0, _, _ => []
  | f + 1, d, left => if 0 < left then (if 0 < min left (bkI bs (d - 1)) then [(d - 1, min left (bkI bs (d - 1)))] else []) ++ newest bs f (d - 1) (left - min left (bkI bs (d - 1))) else []
theorem newest_len : ∀ (f : Nat) (d left : Int), (newest bs f d left).length ≤ f
  | 0, _, _ => Nat.le_refl _
  | f + 1, d, left => by
    unfold newest
    have z := newest_len f (d - 1) (left - min left (bkI bs (d - 1)))
    split
    · rw [List.length_append]
      split
      · simp only [List.length_cons, List.length_nil]; omega
      · simp only [List.length_nil]; omega
    · exact Nat.zero_le _
theorem newest_zero {f : Nat} {d : Int} {left : Int} (h : left ≤ 0) : newest bs f d left = [] := by
  cases f with
  | zero => rfl
  | succ f => unfold newest; rw [if_neg (by omega)]
theorem bkI_b (h : ∀ x ∈ bs, 0 ≤ x ∧ x ≤ 1000000000) (d : Int) : 0 ≤ bkI bs d ∧ bkI bs d ≤ 1000000000 := getD_mem0 h
theorem sumNew_nn (h : ∀ x ∈ bs, 0 ≤ x ∧ x ≤ 1000000000) : ∀ (f : Nat) (d : Int), 0 ≤ sumNew bs f d
  | 0, _ => Int.le_refl _
  | f + 1, d => by
    have := (bkI_b h (d - 1)).1
    have := sumNew_nn h f (d - 1)
    show 0 ≤ bkI bs (d - 1) + sumNew bs f (d - 1)
    omega
theorem sumNew_last : ∀ (f : Nat) (d : Int), sumNew bs (f + 1) d = sumNew bs f d + bkI bs (d - 1 - (f : Int))
  | 0, d => by show bkI bs (d - 1) + 0 = 0 + _; simp
  | f + 1, d => by
    show bkI bs (d - 1) + sumNew bs (f + 1) (d - 1) = bkI bs (d - 1) + sumNew bs f (d - 1) + _
    rw [sumNew_last f (d - 1)]
    have e : d - 1 - 1 - (f : Int) = d - 1 - ((f + 1 : Nat) : Int) := by omega
    rw [e]; omega
theorem keepAt_new {t : Nat} : keepAt bs life (t % bs.length) = sumNew bs (life - 1).toNat ((t : Int) + 1) := by
  unfold keepAt
  generalize (life - 1).toNat = f
  induction f with
  | zero => rfl
  | succ f ih =>
    rw [List.range_succ, List.map_append, List.sum_append, ih, sumNew_last]
    have e : (((t % bs.length : Nat) : Int) - (f : Int)) % (bs.length : Int) = ((t : Int) + 1 - 1 - (f : Int)) % (bs.length : Int) := by
      rw [Int.natCast_emod, Int.sub_emod, Int.emod_emod, ← Int.sub_emod]
      congr 1
      omega
    simp only [List.map_cons, List.map_nil, List.sum_cons, List.sum_nil]
    rw [e]
    unfold bkI
    omega
theorem keepL_at {i : Nat} (hi : i < bs.length) : (keepL bs life).getD i 0 = keepAt bs life i := by
  unfold keepL
  simp [List.getD, List.getElem?_range hi]
theorem stock_new (h : Good bs ds) (t : Nat) : dayS bs ds (keepL bs life) t ≤ sumNew bs (life - 1).toNat (t : Int) := by
  cases t with
  | zero => exact sumNew_nn h.b0 _ _
  | succ t =>
    have e : (keepL bs life).getD (t % bs.length) 0 = sumNew bs (life - 1).toNat ((t : Int) + 1) := by
      rw [keepL_at (Nat.mod_lt t h.n0), keepAt_new]
    show stp _ _ _ _ ≤ sumNew bs (life - 1).toNat ((t : Int) + 1)
    rw [← e]
    unfold stp; omega
/-! multiplied -/
theorem mul_mn (hm : 0 ≤ m) (a b : Int) : m * min a b = min (m * a) (m * b) := by
  rcases Int.le_total a b with h | h
  · rw [Int.min_eq_left h, Int.min_eq_left (Int.mul_le_mul_of_nonneg_left h hm)]
  · rw [Int.min_eq_right h, Int.min_eq_right (Int.mul_le_mul_of_nonneg_left h hm)]
theorem mul_mx (hm : 0 ≤ m) (a : Int) : m * max 0 a = max 0 (m * a) := by
  rcases Int.le_total 0 a with h | h
  · have := Int.mul_nonneg hm h
    rw [Int.max_eq_right h, Int.max_eq_right this]
  · have := Int.mul_le_mul_of_nonneg_left h hm
    rw [Int.mul_zero] at this
    rw [Int.max_eq_left h, Int.max_eq_left this, Int.mul_zero]
theorem stp_scale (hm : 0 ≤ m) (s b d k : Int) : stp (m * s) (m * b) (m * d) (m * k) = m * stp s b d k := by
  unfold stp
  rw [mul_mn hm, mul_mx hm, Int.mul_sub, Int.mul_add]
theorem getD_scale (xs : List Int) (i : Nat) : (xs.map (m * ·)).getD i 0 = m * xs.getD i 0 := by
  simp only [List.getD, List.getElem?_map]
  cases xs[i]? with
  | none => simp
  | some v => rfl
theorem keepAt_scale (i : Nat) : keepAt (bs.map (m * ·)) life i = m * keepAt bs life i := by
  unfold keepAt
  rw [List.length_map]
  generalize (life - 1).toNat = n
  induction n with
  | zero => simp
  | succ n ih =>
    rw [List.range_succ, List.map_append, List.sum_append, List.map_append, List.sum_append, ih, Int.mul_add]
    simp only [List.map_cons, List.map_nil, List.sum_cons, List.sum_nil, Int.add_zero]
    rw [getD_scale]
theorem keepL_scale {i : Nat} (hi : i < bs.length) : (keepL (bs.map (m * ·)) life).getD i 0 = m * (keepL bs life).getD i 0 := by
  rw [keepL_at hi, keepL_at (by rw [List.length_map]; exact hi), keepAt_scale]
theorem dayS_scale (hm : 0 ≤ m) (h0 : 0 < bs.length) (t : Nat) : dayS (bs.map (m * ·)) (ds.map (m * ·)) (keepL (bs.map (m * ·)) life) t = m * dayS bs ds (keepL bs life) t := by
  induction t with
  | zero => show (0 : Int) = m * 0; simp
  | succ t ih =>
    show stp _ _ _ _ = m * stp _ _ _ _
    rw [ih, List.length_map, getD_scale, getD_scale, keepL_scale (Nat.mod_lt t h0), stp_scale hm]
theorem bk_scale (t : Nat) : bk (bs.map (m * ·)) t = m * bk bs t := by unfold bk; rw [List.length_map, getD_scale]
theorem dm_scale (t : Nat) : dm (bs.map (m * ·)) (ds.map (m * ·)) t = m * dm bs ds t := by unfold dm; rw [List.length_map, getD_scale]
theorem mis_scale (hm : 0 ≤ m) (h0 : 0 < bs.length) (t : Nat) : misS (bs.map (m * ·)) (ds.map (m * ·)) (keepL (bs.map (m * ·)) life) t = m * misS bs ds (keepL bs life) t := by
  unfold misS
  rw [dayS_scale hm h0, bk_scale, dm_scale, mul_mx hm, Int.mul_sub, Int.mul_sub]
theorem sol_scale (hm : 0 ≤ m) (h0 : 0 < bs.length) (t : Nat) : solS (bs.map (m * ·)) (ds.map (m * ·)) (keepL (bs.map (m * ·)) life) t = m * solS bs ds (keepL bs life) t := by
  unfold solS
  rw [mis_scale hm h0, dm_scale, Int.mul_sub]
theorem thr_scale (hm : 0 ≤ m) (h0 : 0 < bs.length) (t : Nat) : thrS (bs.map (m * ·)) (ds.map (m * ·)) (keepL (bs.map (m * ·)) life) t = m * thrS bs ds (keepL bs life) t := by
  unfold thrS
  rw [sol_scale hm h0, bk_scale, dayS_scale hm h0, dayS_scale hm h0, Int.mul_sub, Int.mul_sub, Int.mul_sub]
theorem psum_scale {f g : Nat → Int} (h : ∀ j, f j = m * g j) : ∀ n, psum f n = m * psum g n
  | 0 => by show (0 : Int) = m * 0; simp
  | n + 1 => by show psum f n + f n = m * (psum g n + g n); rw [psum_scale h n, h, Int.mul_add]
theorem newest_scale (hm : 0 < m) : ∀ (f : Nat) (d left : Int), newest (bs.map (m * ·)) f d (m * left) = (newest bs f d left).map fun p => (p.1, m * p.2)
  | 0, _, _ => rfl
  | f + 1, d, left => by
    have eb : bkI (bs.map (m * ·)) (d - 1) = m * bkI bs (d - 1) := by unfold bkI; rw [List.length_map, getD_scale]
    have pos : ∀ x : Int, 0 < m * x ↔ 0 < x := fun x => ⟨fun z => by
      rcases Int.lt_or_le 0 x with q | q
      · exact q
      · have := Int.mul_le_mul_of_nonneg_left q (Int.le_of_lt hm)
        rw [Int.mul_zero] at this
        omega, fun z => Int.mul_pos hm z⟩
    unfold newest
    rw [eb, ← mul_mn (Int.le_of_lt hm), ← Int.mul_sub, newest_scale hm f]
    by_cases h1 : 0 < left
    · rw [if_pos h1, if_pos ((pos _).mpr h1), List.map_append]
      by_cases h2 : 0 < min left (bkI bs (d - 1))
      · rw [if_pos h2, if_pos ((pos _).mpr h2)]; rfl
      · rw [if_neg h2, if_neg (fun z => h2 ((pos _).mp z))]; rfl
    · rw [if_neg h1, if_neg (fun z => h1 ((pos _).mp z))]; rfl
/-! life 1 -/
theorem day_life1 (t : Nat) : dayS bs ds (keepL bs 1) t = 0 := by
  have k0 : ∀ i, (keepL bs 1).getD i 0 = 0 := fun i => by
    by_cases hi : i < bs.length
    · rw [keepL_at hi]; rfl
    · have e : (List.range bs.length)[i]? = none := List.getElem?_eq_none (by rw [List.length_range]; omega)
      unfold keepL
      simp [List.getD, List.getElem?_map, e]
  cases t with
  | zero => rfl
  | succ t =>
    show stp _ _ _ _ = 0
    rw [k0]
    unfold stp; omega
/-! the same each day -/
theorem keep_one {b : Int} (l1 : 1 ≤ life) : (keepL [b] life).getD 0 0 = (life - 1) * b := by
  rw [keepL_at (show 0 < 1 by decide)]
  unfold keepAt
  have e : (life - 1) * b = ((life - 1).toNat : Int) * b := by rw [Int.toNat_of_nonneg (by omega)]
  rw [e]
  generalize (life - 1).toNat = n
  induction n with
  | zero => simp
  | succ n ih =>
    rw [List.range_succ, List.map_append, List.sum_append, ih]
    have z : ((([b] : List Int).length : Nat) : Int) = 1 := rfl
    simp only [List.map_cons, List.map_nil, List.sum_cons, List.sum_nil, z, Int.emod_one]
    rw [Int.natCast_add, Int.add_mul]
    simp
theorem day_one {b d : Int} (b0 : 0 ≤ b) (l1 : 1 ≤ life) (t : Nat) : dayS [b] [d] (keepL [b] life) t = max 0 (min ((t : Int) * (b - d)) ((life - 1) * b)) := by
  have hk : 0 ≤ (life - 1) * b := Int.mul_nonneg (by omega) b0
  induction t with
  | zero => show (0 : Int) = _; simp; omega
  | succ t ih =>
    show stp _ _ _ _ = _
    have e : t % ([b] : List Int).length = 0 := Nat.mod_one t
    rw [ih, e, keep_one l1]
    have e2 : ((t + 1 : Nat) : Int) * (b - d) = (t : Int) * (b - d) + (b - d) := by rw [Int.natCast_add, Int.add_mul]; simp
    rw [e2]
    show stp _ b d _ = _
    generalize (life - 1) * b = k at hk ⊢
    rcases Int.le_total d b with h | h
    · have : 0 ≤ (t : Int) * (b - d) := Int.mul_nonneg (by omega) (by omega)
      generalize (t : Int) * (b - d) = x at this ⊢
      unfold stp; omega
    · have : (t : Int) * (b - d) ≤ 0 := by
        have := Int.mul_nonneg (show (0 : Int) ≤ (t : Int) by omega) (show 0 ≤ d - b by omega)
        have e3 : (t : Int) * (d - b) = - ((t : Int) * (b - d)) := by rw [← Int.mul_neg]; congr 1; omega
        omega
      generalize (t : Int) * (b - d) = x at this ⊢
      unfold stp; omega
theorem mis_one {b d : Int} (b0 : 0 ≤ b) (l1 : 1 ≤ life) (t : Nat) : misS [b] [d] (keepL [b] life) t = max 0 (d - b) := by
  have hk : 0 ≤ (life - 1) * b := Int.mul_nonneg (by omega) b0
  unfold misS
  have e1 : dm [b] [d] t = d := by unfold dm; have e : t % ([b] : List Int).length = 0 := Nat.mod_one t; rw [e]; rfl
  have e2 : bk [b] t = b := by unfold bk; have e : t % ([b] : List Int).length = 0 := Nat.mod_one t; rw [e]; rfl
  rw [e1, e2, day_one b0 l1]
  rcases Int.le_total d b with h | h
  · omega
  · have : (t : Int) * (b - d) ≤ 0 := by
      have := Int.mul_nonneg (show (0 : Int) ≤ (t : Int) by omega) (show 0 ≤ d - b by omega)
      have e3 : (t : Int) * (d - b) = - ((t : Int) * (b - d)) := by rw [← Int.mul_neg]; congr 1; omega
      omega
    omega
theorem sol_one {b d : Int} (b0 : 0 ≤ b) (l1 : 1 ≤ life) (t : Nat) : solS [b] [d] (keepL [b] life) t = min b d := by
  unfold solS
  have e1 : dm [b] [d] t = d := by unfold dm; have e : t % ([b] : List Int).length = 0 := Nat.mod_one t; rw [e]; rfl
  rw [mis_one b0 l1, e1]; omega
theorem psum_same {f : Nat → Int} {c : Int} (h : ∀ j, f j = c) : ∀ n : Nat, psum f n = c * (n : Int)
  | 0 => by show (0 : Int) = c * 0; simp
  | n + 1 => by show psum f n + f n = _; rw [psum_same h n, h, Int.natCast_add, Int.mul_add]; simp
end
end Sw
namespace Sw
open PySem PySem.Spec PyProof.Rows L2 Evl
local macro_rules | `(tactic| walk_at "ev") => `(tactic| first
  | exact ev_c
  | exact ev_var rfl
  | ((with_reducible show Ev (tCB rMax2 _) _ _ _); exact ev_maxi (by walk_at "ev") (by walk_at "ev"))
  | ((with_reducible show Ev (tCB rMn _) _ _ _); exact ev_min2 (by walk_at "ev") (by walk_at "ev"))
  | ((with_reducible show Ev (tUn _ _) _ _ _); exact ev_un (by walk_at "ev") ru_neg)
  | ((with_reducible show Ev (tFld _ _ _) _ _ _); exact ev_fldK (by walk_at "ev") (by assumption))
  | ((with_reducible show Ev (tOp (rI0 _) _ _) _ _ _); exact ev_op (by walk_at "ev") (by walk_at "ev") rv_I0)
  | ((with_reducible show Ev (tOp rEq _ _) _ _ _); exact ev_op (by walk_at "ev") (by walk_at "ev") (rv_eq rfl))
  | ((with_reducible show Ev (tOp rNe _ _) _ _ _); exact ev_op (by walk_at "ev") (by walk_at "ev") (rv_ne rfl)))

/-! ### sold, loaves_at, shelf -/
/-- a list of pairs of numbers -/
def PairsAt (H : Hp) (xs : List V) (l : List (Int × Int)) : Prop := xs.length = l.length ∧ ∀ (i : Nat) (u : V) (d c : Int), xs[i]? = some u → l[i]? = some (d, c) → ∃ p : Addr, u = .ref p ∧ H p = some (.tup [.int d, .int c])
section
variable {K : PySem.W.Frag} {σ : L2.St} {H H' : Hp} {te : TE} {a F q : Addr} {xs : List V} {l : List (Int × Int)} {d c : Int}
theorem PairsAt.mono (e : Ex H H') (h : PairsAt H xs l) : PairsAt H' xs l := ⟨h.1, fun i u d c h1 h2 => let ⟨p, e1, e2⟩ := h.2 i u d c h1 h2; ⟨p, e1, e _ _ e2⟩⟩
theorem PairsAt.app {ys : List V} (h : PairsAt H xs l) (hF : H F = some (.lst ys)) (hq : H q = some (.tup [.int d, .int c])) : PairsAt (upd H F (.lst (xs ++ [.ref q]))) (xs ++ [.ref q]) (l ++ [(d, c)]) := by
  have ne : ∀ {p : Addr} {zs : List V}, H p = some (.tup zs) → p ≠ F := fun hp z => by
    subst z; rw [hF] at hp; cases hp
  refine ⟨by rw [List.length_append, List.length_append, h.1]; rfl, fun i u d' c' h1 h2 => ?_⟩
  by_cases hi : i < xs.length
  · rw [List.getElem?_append_left hi] at h1
    rw [List.getElem?_append_left (by rw [← h.1]; exact hi)] at h2
    obtain ⟨p, e1, e2⟩ := h.2 i u d' c' h1 h2
    exact ⟨p, e1, by rw [upd_ne (ne e2)]; exact e2⟩
  · have hlt := (List.getElem?_eq_some_iff.mp h1).1
    rw [List.length_append, List.length_singleton] at hlt
    have e : i = xs.length := by omega
    subst e
    rw [List.getElem?_append_right (Nat.le_refl _), Nat.sub_self] at h1
    rw [h.1, List.getElem?_append_right (Nat.le_refl _), Nat.sub_self] at h2
    cases h1
    cases h2
    exact ⟨q, rfl, by rw [upd_ne (ne hq)]; exact hq⟩
theorem PairsAt.rev (h : PairsAt H xs l) : PairsAt H xs.reverse l.reverse := by
  refine ⟨by rw [List.length_reverse, List.length_reverse, h.1], fun i u d c h1 h2 => ?_⟩
  have hlt := (List.getElem?_eq_some_iff.mp h1).1
  rw [List.length_reverse] at hlt
  rw [List.getElem?_reverse hlt] at h1
  rw [List.getElem?_reverse (by rw [← h.1]; exact hlt), ← h.1] at h2
  exact h.2 _ u d c h1 h2
def EvPs (te : TE) (σ : L2.St) (H : Hp) (l : List (Int × Int)) : Prop := ∀ H1, Ex H H1 → ∀ Q : VK, (∀ p xs H2, H1 p = none → Ex H1 H2 → H2 p = some (.lst xs) → PairsAt H2 xs l → Q (.ref p) H2) → te σ H1 Q
end
section
variable {bs ds : List Int} {life : Int}
def shelfL (bs ds : List Int) (life : Int) (t : Nat) : List (Int × Int) := (newest bs (life - 1).toNat (t : Int) (dayS bs ds (keepL bs life) t)).reverse
end
def RetPs (l : List (Int × Int)) (H : Hp) (Q : VK) : Prop := ∀ p xs H2, H p = none → Ex H H2 → H2 p = some (.lst xs) → PairsAt H2 xs l → Q (.ref p) H2
def sp_loaves (K : PySem.W.Frag) (Z : Ad) : Sp := fun vs H Q _ => ∃ (c : Addr) (bs ds : List Int) (life : Int) (t : Nat), vs = [.ref c, .int (t : Int)] ∧ CoAt K Z H c bs ds (keepL bs life) ∧ Good bs ds ∧ life ≤ 30 ∧ RetPs (shelfL bs ds life t) H Q
theorem eps_meth {σ : L2.St} {H : Hp} {ta : TE} {a C : Addr} {m : Str} {l : List (Int × Int)} {sp : Sp} {dvs vs : List V} {E : XK} {t : TA} (h : Ev ta σ H (.ref a)) (nf : NoF H a C m) (hv : EvA t σ H vs) (hs : ∀ H1, Ex H H1 → ∀ Q : VK, RetPs l H1 Q → ∀ E : XK, sp (.ref a :: (vs ++ dvs)) H1 Q E) : EvPs (tMeth C m sp dvs E ta t) σ H l := fun H1 e Q q =>
  h H1 e _ fun H2 e2 => let ⟨dx, fs, h1, h2⟩ := nf; ⟨a, dx, fs, rfl, e2 _ _ (e _ _ h1), h2, hv H2 (e.trans e2) _ fun H3 e3 => hs H3 ((e.trans e2).trans e3) Q (fun p xs H4 hp e4 h4 hP => q p xs H4 (fresh_back (e2.trans e3) hp) ((e2.trans e3).trans e4) h4 hP) E⟩
theorem s_retPs {σ : L2.St} {H : Hp} {te : TE} {l : List (Int × Int)} {D : Ends} (h : EvPs te σ H l) (k : RetPs l H D.rt) : tRet te D σ H := h H (Ex.refl _) _ k
variable {P : Program} {w : World} {K : PySem.W.Frag} {mg : Str → Option Value} {base : Heap} {Z : Ad}
theorem ok_Course_loaves_at (T : Txt K mg Z) : FnOk P w K mg base CX0 4 Z.f_Course_loaves_at Z.d_Course_loaves_at p_Course_loaves_at (sp_loaves K Z) := by
  refine T.F_Course_loaves_at.ok sc_Course_loaves_at (fun vs H Q E h => ?_) (fun cdv Ar outer s H vs Q E hr h => ?_)
  · obtain ⟨c, bs, ds, life, t, rfl, _⟩ := h
    rfl
  · obtain ⟨c, bs, ds, life, t, rfl, hC, gd, l1, k⟩ := h
    have cm : CoM bs ds (keepL bs life) := ⟨gd, keepL_len, fun _ => keepL_nn gd.b0⟩
    obtain ⟨tb, td, tk, s⟩ := hC.sr
    have n0 := gd.n0
    refine ⟨_, (pss_cons (ps_set (i := 2) sc_Course_loaves_at.nd rfl (Or.inl rfl) (pe_meth (pv 0) T.cl_Course T.m_Course_stock_at (ok_Course_stock_at T) (hr.mono (by decide)) T.b_Course_stock_at .nil pass0 (pa_cons (pv 1) pa_nil)))
      (pss_cons (ps_set (i := 3) sc_Course_loaves_at.nd rfl (Or.inl rfl) (pv 1))
      (pss_cons (ps_set (i := 4) sc_Course_loaves_at.nd rfl (Or.inl rfl) (pe_lst pa_nil))
      (pss_cons (ps_while PassesOwn.never (pt_cmpR op_gt (pv 2) pe_int (nomark _)) (pss_cons (ps_aug (i := 3) sc_Course_loaves_at.nd rfl (Or.inl rfl) pe_int in_sub)
      (pss_cons (ps_set (i := 5) sc_Course_loaves_at.nd rfl (Or.inl rfl) (pe_callB (r := rMn) (call_min2 rfl) (by rfl) T.b_min boot_min (pa_cons (pv 2) (pa_cons (pe_ix (r := rIxT K) ix_tup (pe_fldK K rfl (pv 0) rfl) (pe_op op_mod (pv 3) (pe_callB (r := rLenS K) (call_len_seq) (by rfl) T.b_len boot_len (pa_cons (pe_fldK K rfl (pv 0) rfl) pa_nil))) (fun _ _ => rfl)) pa_nil))))
      (pss_cons (ps_if (pt_cmpR op_gt (pv 5) pe_int (nomark _)) (pss_one (ps_expr (pe_bm PySem.F.plainAttrs_list PySem.F.slot_list_append PySem.F.type_list_append mt_append (pv 4) (pa_cons (pe_tup (pa_cons (pv 3) (pa_cons (pv 5) pa_nil))) pa_nil)))) pss_nil)
      (pss_one (ps_aug (i := 2) sc_Course_loaves_at.nd rfl (Or.inl rfl) (pv 5) in_sub))))))
      (pss_one (ps_ret (pe_revL (pv 4)))))))), ?_⟩
    refine q_asg (ev_is (ev_meth (ev_var rfl) (hC.nf _ (by decide)) (ea_cons (ev_var rfl) ea_nil) (spv_stock_at s)) (congrArg V.int (stock_is cm t))) fun H1 e1 => ?_
    refine q_asg (ev_var rfl) fun H2 e2 => ?_
    refine q_asgL (xs := []) (el_lst ea_nil (by show 0 ≤ 100000; decide)) fun F H3 hF e3 h3 => ?_
    have sl := stock_new (life := life) gd t
    refine q_while (fun m σ' H' => ∃ (dd left : Int) (acc : List (Int × Int)) (xs : List V) (x5 : Option V), σ' = [some (.ref c), some (.int (t : Int)), some (.int left), some (.int dd), some (.ref F), x5] ∧ Ex H2 H' ∧ H' F = some (.lst xs) ∧ PairsAt H' xs acc ∧ acc.length + m ≤ 29 ∧ 0 ≤ left ∧ left ≤ sumNew bs m dd ∧
      acc ++ newest bs m dd left = newest bs (life - 1).toNat (t : Int) (dayS bs ds (keepL bs life) t)) (life - 1).toNat ⟨(t : Int), dayS bs ds (keepL bs life) t, [], [], _, rfl, e3, h3, ⟨rfl, fun i u d c z => by cases z⟩, by simp only [List.length_nil]; omega, dayS_nn cm t, sl, rfl⟩ ?_
    rintro m σ' H' ⟨dd, left, acc, xs, x5, rfl, e4, hx, hp, hm, p0, pl, eq⟩
    have eA : Ex H H' := (e1.trans e2).trans e4
    refine ⟨_, et_test (ev_op (ev_var rfl) ev_c rv_I0), fun hb H5 e5 => ?_, fun hb H5 e5 => ?_⟩
    · have hpos : 0 < left := by simpa using hb
      obtain ⟨f, rfl⟩ : ∃ f, m = f + 1 := by
        cases m with
        | zero => exact absurd pl (by show ¬ left ≤ 0; omega)
        | succ f => exact ⟨f, rfl⟩
      have pl' : left ≤ bkI bs (dd - 1) + sumNew bs f (dd - 1) := pl
      have sn := sumNew_nn gd.b0 f (dd - 1)
      have bb := bkI_b gd.b0 (dd - 1)
      have eq' : acc ++ ((if 0 < min left (bkI bs (dd - 1)) then [(dd - 1, min left (bkI bs (dd - 1)))] else []) ++ newest bs f (dd - 1) (left - min left (bkI bs (dd - 1)))) = newest bs (life - 1).toNat (t : Int) (dayS bs ds (keepL bs life) t) := by
        rw [← eq]; congr 1; show _ = newest bs (f + 1) dd left; rw [newest, if_pos hpos]
      refine ⟨fun σ2 H2' => ∃ m', m' < f + 1 ∧ ∃ (dd left : Int) (acc : List (Int × Int)) (xs : List V) (x5 : Option V), σ2 = [some (.ref c), some (.int (t : Int)), some (.int left), some (.int dd), some (.ref F), x5] ∧ Ex H2 H2' ∧ H2' F = some (.lst xs) ∧ PairsAt H2' xs acc ∧ acc.length + m' ≤ 29 ∧ 0 ≤ left ∧ left ≤ sumNew bs m' dd ∧
        acc ++ newest bs m' dd left = newest bs (life - 1).toNat (t : Int) (dayS bs ds (keepL bs life) t), fun σ2 H2 h => h, ?_⟩
      refine q_aug (a := dd) (b := 1) rfl ev_c fun H6 e6 => ?_
      have e06 := (eA.trans e5).trans e6
      have hP := s.pr.mono e06
      have fb := hP.fb
      have hl : ((bs.map V.int).length : Int) = (bs.length : Int) := by rw [List.length_map]
      have r0 : 0 ≤ (dd - 1) % (bs.length : Int) := Int.emod_nonneg _ (by omega)
      have r1 : (dd - 1) % (bs.length : Int) < (bs.length : Int) := Int.emod_lt_of_pos _ (by omega)
      refine q_asg (v := .int (min left (bkI bs (dd - 1)))) (ev_min2 (ev_var rfl) (ev_ixT (v := .int (bkI bs (dd - 1))) (by walk_at "ev") hP.hb (ev_op (ev_var rfl) (Ev.int_eq (ev_lenT (by walk_at "ev") hP.hb) hl) (rv_I (by show (0 : Int) < (bs.length : Int); omega))) (atI_mapI r0 r1))) fun H7 e7 => ?_
      generalize hc : min left (bkI bs (dd - 1)) = cnt at eq'
      have e57 := (e5.trans e6).trans e7
      have hx7 := e57 _ _ hx
      refine q_when (b := decide (cnt > 0)) (et_test (ev_op (ev_var rfl) ev_c rv_I0)) (fun hb2 H8 e8 => ?_) (fun hb2 H8 e8 => ?_)
      · have hc0 : 0 < cnt := by simpa using hb2
        rw [if_pos hc0] at eq'
        refine s_appU (xs := xs) (e8 _ _ hx7) (ev_var rfl) (eu_tup (ea_cons (ev_var rfl) (ea_cons (ev_var rfl) ea_nil)) (by show 2 ≤ 100000; decide)) (by rw [hp.1]; omega) fun q H9 hq e9 h9 => ?_
        refine s_aug (a := left) (b := cnt) rfl (ev_var rfl) fun H10 e10 => ?_
        have e59 := (e57.trans e8).trans e9
        refine ⟨f, Nat.lt_succ_self _, dd - 1, left - cnt, acc ++ [(dd - 1, cnt)], xs ++ [.ref q], _, rfl, (Ex.mut (e4.trans e59) hF).trans e10, e10 _ _ upd_same, ((hp.mono e59).app (e59 _ _ hx) h9).mono e10, by rw [List.length_append, List.length_singleton]; omega, by omega, by omega, ?_⟩
        rw [List.append_assoc]
        exact eq'
      · have hc0 : ¬ 0 < cnt := by simpa using hb2
        rw [if_neg hc0] at eq'
        refine s_aug (a := left) (b := cnt) rfl (ev_var rfl) fun H10 e10 => ?_
        have e5A := (e57.trans e8).trans e10
        exact ⟨f, Nat.lt_succ_self _, dd - 1, left - cnt, acc, xs, _, rfl, e4.trans e5A, e5A _ _ hx, hp.mono e5A, by omega, by omega, by omega, eq'⟩
    · have h0 : left ≤ 0 := by
        have : ¬ 0 < left := by simpa using hb
        omega
      rw [newest_zero h0, List.append_nil] at eq
      subst eq
      have hx5 := e5 _ _ hx
      refine ⟨.ref F, rfl, F, xs, rfl, sq_of hx5, fun r hr => ?_⟩
      have e05 := eA.trans e5
      exact k r xs.reverse _ (fresh_back e05 hr) (e05.trans (Ex.new hr)) upd_same ((hp.mono e5).mono (Ex.new hr)).rev
theorem ok_Bakery_sold (T : Txt K mg Z) : FnOk P w K mg base CX0 4 Z.f_Bakery_sold Z.d_Bakery_sold p_Bakery_sold (sp_Bday K Z 0) := by
  refine T.F_Bakery_sold.ok sc_Bakery_sold (fun vs H Q E h => ?_) (fun cdv Ar outer s H vs Q E hr h => ?_)
  · obtain ⟨b, bs, ds, life, i, t, rfl, _⟩ := h
    rfl
  · obtain ⟨b, bs, ds, life, i, t, rfl, ht, hB, k⟩ := h
    refine ⟨_, (pss_cons (ps_expr (pe_call (ok_check_number T) (hr.mono (by decide)) (by rfl) T.g_check_number T.F_check_number.kp T.b_check_number .nil pass0 (pa_cons (pv 1) (pa_cons pe_int (pa_cons (pe_glob (v := .int 1000000000000000000) (by rfl) T.g_LAST_DAY ⟨_, rfl⟩) pa_nil)))))
      (pss_one (ps_ret (pe_ix (r := rIxT K) ix_tup (pe_meth (pe_fldK K rfl (pv 0) rfl) T.cl_Course T.m_Course_sales_on (ok_Course_sales_on T) (hr.mono (by decide)) T.b_Course_sales_on .nil pass0 (pa_cons (pv 1) pa_nil)) pe_int (fun _ _ => rfl))))), ?_⟩
    refine q_drop (ev_call (ea_cons (ev_var rfl) (ea_cons ev_c (ea_cons ev_c ea_nil))) (spv_num (by omega) ht)) fun H1 e1 => ?_
    obtain ⟨c, fc, hC⟩ := (hB.mono e1).fc
    obtain ⟨tb, td, tk, s⟩ := hC.sr
    have hs : salesI bs ds (keepL bs life) (gainOf bs ds) (firstOf bs ds (keepL bs life)) (fullOf bs ds (keepL bs life)) (t : Int) = _ := sales_is hB.com t
    refine s_ret (ev_ixNU (i := 0) (v := .int (solS bs ds (keepL bs life) t)) (eu_meth (by walk_at "ev") (hC.nf _ (by decide)) (ea_cons (ev_var rfl) ea_nil) (spu_sales_on s)) ev_c (by rw [hs]; rfl)) fun H2 e2 => k H2 (e1.trans e2)
def sp_Bshelf (K : PySem.W.Frag) (Z : Ad) : Sp := fun vs H Q _ => ∃ (b : Addr) (bs ds : List Int) (life : Int) (i : Nat) (t : Nat), vs = [.ref b, .int (t : Int)] ∧ (t : Int) ≤ 1000000000000000000 ∧ BakAt K Z H b bs ds life i ∧ RetPs (shelfL bs ds life t) H Q
theorem ok_Bakery_shelf (T : Txt K mg Z) : FnOk P w K mg base CX0 5 Z.f_Bakery_shelf Z.d_Bakery_shelf p_Bakery_shelf (sp_Bshelf K Z) := by
  refine T.F_Bakery_shelf.ok sc_Bakery_shelf (fun vs H Q E h => ?_) (fun cdv Ar outer s H vs Q E hr h => ?_)
  · obtain ⟨b, bs, ds, life, i, t, rfl, _⟩ := h
    rfl
  · obtain ⟨b, bs, ds, life, i, t, rfl, ht, hB, k⟩ := h
    refine ⟨_, (pss_cons (ps_expr (pe_call (ok_check_number T) (hr.mono (by decide)) (by rfl) T.g_check_number T.F_check_number.kp T.b_check_number .nil pass0 (pa_cons (pv 1) (pa_cons pe_int (pa_cons (pe_glob (v := .int 1000000000000000000) (by rfl) T.g_LAST_DAY ⟨_, rfl⟩) pa_nil)))))
      (pss_one (ps_ret (pe_meth (pe_fldK K rfl (pv 0) rfl) T.cl_Course T.m_Course_loaves_at (ok_Course_loaves_at T) (hr.mono (by decide)) T.b_Course_loaves_at .nil pass0 (pa_cons (pv 1) pa_nil))))), ?_⟩
    refine q_drop (ev_call (ea_cons (ev_var rfl) (ea_cons ev_c (ea_cons ev_c ea_nil))) (spv_num (by omega) ht)) fun H1 e1 => ?_
    obtain ⟨c, fc, hC⟩ := (hB.mono e1).fc
    refine s_retPs (l := shelfL bs ds life t) (eps_meth (vs := [.int (t : Int)]) (ev_fldK (ev_var rfl) fc) (hC.nf _ (by decide)) (ea_cons (ev_var rfl) ea_nil) fun _ e _ q _ => ⟨c, bs, ds, life, t, rfl, CO.mono e hC, hB.gd, hB.l1, q⟩) fun p xs H4 hp e4 h4 hP => k p xs H4 (fresh_back e1 hp) (e1.trans e4) h4 hP
end Sw
namespace Sw
open PySem PySem.Spec PyProof.Rows L2 Evl
local macro_rules | `(tactic| walk_at "ev") => `(tactic| first
  | exact ev_c
  | exact ev_var rfl
  | ((with_reducible show Ev (tCB rMax2 _) _ _ _); exact ev_maxi (by walk_at "ev") (by walk_at "ev"))
  | ((with_reducible show Ev (tCB rMn _) _ _ _); exact ev_min2 (by walk_at "ev") (by walk_at "ev"))
  | ((with_reducible show Ev (tUn _ _) _ _ _); exact ev_un (by walk_at "ev") ru_neg)
  | ((with_reducible show Ev (tFld _ _ _) _ _ _); exact ev_fldK (by walk_at "ev") (by assumption))
  | ((with_reducible show Ev (tOp (rI0 _) _ _) _ _ _); exact ev_op (by walk_at "ev") (by walk_at "ev") rv_I0)
  | ((with_reducible show Ev (tOp rEq _ _) _ _ _); exact ev_op (by walk_at "ev") (by walk_at "ev") (rv_eq rfl))
  | ((with_reducible show Ev (tOp rNe _ _) _ _ _); exact ev_op (by walk_at "ev") (by walk_at "ev") (rv_ne rfl)))

section
variable {K : PySem.W.Frag} {Z : Ad} {σ : L2.St} {H H' : Hp} {ta tb tc te tx : TE} {x y z v : V} {a b h l p q : Addr} {xs ys : List V} {ns bs ds : List Int} {life : Int} {i t : Nat} {A B C : Int → Prop} {D : Ends} {tz : TS}
theorem alk_ints {n : Nat} (hx : SqT K H a (ns.map V.int) ∧ SqT K H b (ns.map V.int) ∨ SqL K H a (ns.map V.int) ∧ SqL K H b (ns.map V.int)) (hl : ns.length ≤ 1000) : Alk K H (n + 1) (.ref a) (.ref b) :=
  .inr ⟨a, b, _, _, rfl, rfl, hx, rfl, by rw [List.length_map]; exact hl, fun i u v hu hv => by
    have e : u = v := Option.some.inj (hu.symm.trans hv)
    subst e
    obtain ⟨rfl, _⟩ := at_map hu
    cases n with
    | zero => exact .inl ⟨_, rfl, rfl⟩
    | succ n => exact .inl (.inl ⟨_, rfl, rfl⟩)⟩
theorem ev_callUU {sp : Sp} {E : XK} (ha : EvU ta σ H xs) (hb : EvU tb σ H ys) (hs : ∀ p q H1, Ex H H1 → H1 p = some (.tup xs) → H1 q = some (.tup ys) → SpV sp [.ref p, .ref q] H1 z) : Ev (tCall sp [] E (tCons ta (tCons tb tNil))) σ H z := fun H1 e Q k =>
  ha H1 e _ fun p H2 _ e2 hp => hb H2 (e.trans e2) _ fun q H3 _ e3 hq => hs p q H3 ((e.trans e2).trans e3) (e3 _ _ hp) hq H3 (Ex.refl _) Q (fun H4 e4 => k H4 ((e2.trans e3).trans e4)) E
theorem ev_callWU {sp : Sp} {E : XK} (ha : EvW K ta σ H xs) (hb : EvU tb σ H ys) (hs : ∀ p q H1, Ex H H1 → SqT K H1 p xs → H1 q = some (.tup ys) → SpV sp [.ref p, .ref q] H1 z) : Ev (tCall sp [] E (tCons ta (tCons tb tNil))) σ H z := fun H1 e Q k =>
  ha H1 e _ fun p H2 e2 hp => hb H2 (e.trans e2) _ fun q H3 _ e3 hq => hs p q H3 ((e.trans e2).trans e3) (ex_t e3 hp) hq H3 (Ex.refl _) Q (fun H4 e4 => k H4 ((e2.trans e3).trans e4)) E
theorem x_par3 {m n o : Nat} (hs : HS H h l) (ha : EvI ta σ H h l A) (hb : EvI tb σ H h l B) (hc : EvI tc σ H h l C) (k : ∀ i j u H2, Dr h l H H2 → A i → B j → C u → tz D (((σ.set m (some (.int i))).set n (some (.int j))).set o (some (.int u))) H2) : tSeq (tPar3 m n o (tCons ta (tCons tb (tCons tc tNil)))) tz D σ H :=
  ha H (Dr.refl hs) _ fun _ H1 d1 ⟨i, e, hi⟩ => hb H1 d1 _ fun _ H2 d2 ⟨j, e', hj⟩ => hc H2 (d1.trans d2) _ fun _ H3 d3 ⟨u, e'', hu⟩ => by
    subst e e' e''
    exact ⟨_, _, _, rfl, k i j u H3 ((d1.trans d2).trans d3) hi hj hu⟩
/-- a bakery of two new tuples -/
theorem x_bakT {E : XK} (ha : EvU ta σ (wn H (hl h l)) (bs.map V.int)) (hb : EvU tb σ (wn H (hl h l)) (ds.map V.int)) (hc : Ev tc σ (wn H (hl h l)) (.int life)) (gd : Good bs ds) (l0 : 1 ≤ life) (l1 : life ≤ 30) :
    EvX (tMake Z.c_Bakery (sp_Binit K Z) [] E (tCons ta (tCons tb (tCons tc tNil)))) σ H h l (fun u G => ∃ p, u = .ref p ∧ ∃ i, BakAt K Z G p bs ds life i) := fun H1 d Q k => by
  have ew := d.ex.trans (wn_ex (H := H1))
  dsimp only [tMake, tCons, tNil]
  refine ha H1 ew _ fun p H2 hp e2 h2 => hb H2 (ew.trans e2) _ fun r H3 hr e3 h3 => hc H3 ((ew.trans e2).trans e3) _ fun H4 e4 => ?_
  have s4 := d.hs.mono ((e2.trans e3).trans e4)
  have np : ¬ hl h l p := hl_new (G' := H1) d.hs hp
  have nr : ¬ hl h l r := hl_new (G' := H2) (d.hs.mono e2) hr
  have hX := er_bakery (K := K) (Z := Z) (M := hl h l) (H := H4) (σ := [some (.ref p), some (.ref r), some (.int life)]) (E := E) (t := tCons (tVar 0) (tCons (tVar 1) (tCons (tVar 2) tNil))) (bs := bs) (ds := ds) (ea_cons (ev_var rfl) (ea_cons (ev_var rfl) (ea_cons (ev_var rfl) ea_nil)))
    (st_of (by rw [wn_ni np]; exact e4 _ _ (e3 _ _ h2))) (st_of (by rw [wn_ni nr]; exact e4 _ _ h3)) gd l0 l1
  have z := hX H4 (Ex.refl _) s4.kn Q fun p H5 _ e5 hP => k _ H5 (Dr.of d.hs (((e2.trans e3).trans e4).trans e5)) ⟨p, rfl, hP⟩
  dsimp only [tMake, tCons, tNil] at z
  obtain ⟨v1, r1, v2, r2, v3, r3, z⟩ := z
  cases r1; cases r2; cases r3
  exact z
theorem good_one {b d : Int} (b0 : 0 ≤ b) (b1 : b ≤ 1000000000) (d0 : 0 ≤ d) (d1 : d ≤ 1000000000) : Good [b] [d] :=
  ⟨show 0 < 1 by decide, show 1 ≤ 24 by decide, rfl, fun x hx => by rw [List.mem_singleton.mp hx]; exact ⟨b0, b1⟩, fun x hx => by rw [List.mem_singleton.mp hx]; exact ⟨d0, d1⟩⟩
theorem tot_one {b d : Int} (b0 : 0 ≤ b) (l1 : 1 ≤ life) (t : Nat) : totS [b] [d] (keepL [b] life) t = [min b d * (t : Int), d * (t : Int) - min b d * (t : Int), b * (t : Int) - min b d * (t : Int) - max 0 (min ((t : Int) * (b - d)) ((life - 1) * b))] := by
  have e2 : ∀ j, bk [b] j = b := fun j => by unfold bk; have e : j % ([b] : List Int).length = 0 := Nat.mod_one j; rw [e]; rfl
  unfold totS
  rw [thr_sum, psum_same (sol_one b0 l1), psum_same (mis_one b0 l1), psum_same e2, day_one b0 l1]
  congr 1
  congr 1
  rw [← Int.sub_mul]
  congr 1
  omega
theorem long_one {b d : Int} (gd : Good [b] [d]) (b0 : 0 ≤ b) (l1 : 1 ≤ life) : longI [b] [d] (lmOf [b] [d] (keepL [b] life)) = [min b d, max 0 (d - b), max 0 (b - d)] := by
  have cm : CoM [b] [d] (keepL [b] life) := ⟨gd, keepL_len, fun _ => keepL_nn gd.b0⟩
  have e : (lmOf [b] [d] (keepL [b] life)).sum = max 0 (d - b) := by
    rw [lm_sum cm, psum_same (c := max 0 (d - b)) (fun j => mis_one b0 l1 _)]
    show max 0 (d - b) * 1 = _
    omega
  unfold longI
  rw [e]
  have s1 : ([b] : List Int).sum = b := by simp
  have s2 : ([d] : List Int).sum = d := by simp
  rw [s1, s2]
  congr 1
  · omega
  congr 1
  congr 1
  omega
end
def sp_const : Sp := fun vs H Q _ => ∃ h l : Addr, vs = [.ref h] ∧ HS H h l ∧ ∀ H', Dr h l H H' → Q (.bl true) H'
variable {P : Program} {w : World} {K : PySem.W.Frag} {mg : Str → Option Value} {base : Heap} {Z : Ad}
theorem ok__law_constant_right (T : Txt K mg Z) : FnOk P w K mg base CX0 8 Z.f__law_constant_right Z.d__law_constant_right p__law_constant_right sp_const := by
  refine T.F__law_constant_right.ok sc__law_constant_right (fun vs H Q E h => ?_) (fun cdv Ar outer s H vs Q E hr h => ?_)
  · obtain ⟨a, l, rfl, _⟩ := h
    rfl
  · obtain ⟨a, l, rfl, hs, k⟩ := h
    refine ⟨_, (pss_cons (ps_par3 (i := 1) (j := 2) (l := 3) rfl sc__law_constant_right.nd rfl rfl rfl (by decide) (by decide) (by decide) rfl rfl rfl (pa_cons (pe_call (ok__law_next T) (hr.mono (by decide)) (by rfl) T.g__law_next T.F__law_next.kp T.b__law_next .nil pass0 (pa_cons (pv 0) (pa_cons pe_int pa_nil))) (pa_cons (pe_call (ok__law_next T) (hr.mono (by decide)) (by rfl) T.g__law_next T.F__law_next.kp T.b__law_next .nil pass0 (pa_cons (pv 0) (pa_cons pe_int pa_nil))) (pa_cons (pe_op op_add pe_int (pe_call (ok__law_next T) (hr.mono (by decide)) (by rfl) T.g__law_next T.F__law_next.kp T.b__law_next .nil pass0 (pa_cons (pv 0) (pa_cons pe_int pa_nil)))) pa_nil))) (by rfl))
      (pss_cons (ps_par (i := 4) (j := 5) rfl sc__law_constant_right.nd rfl rfl (by decide) rfl rfl (pa_cons (pe_make T.mk_Bakery (ok_Bakery___init__ T) (hr.mono (by decide)) (by rfl) T.g_Bakery T.b_Bakery___init__ .nil pass0 (pa_cons (pe_tup (pa_cons (pv 1) pa_nil)) (pa_cons (pe_tup (pa_cons (pv 2) pa_nil)) (pa_cons (pv 3) pa_nil)))) (pa_cons (pe_call (ok__law_next T) (hr.mono (by decide)) (by rfl) T.g__law_next T.F__law_next.kp T.b__law_next .nil pass0 (pa_cons (pv 0) (pa_cons (pe_ix (r := rIxL K) ix_list (pe_lst (pa_cons pe_int (pa_cons (pe_op op_pow pe_int pe_int) pa_nil))) (pe_call (ok__law_next T) (hr.mono (by decide)) (by rfl) T.g__law_next T.F__law_next.kp T.b__law_next .nil pass0 (pa_cons (pv 0) (pa_cons pe_int pa_nil))) (fun _ _ => rfl)) pa_nil))) pa_nil)) (by rfl))
      (pss_cons (ps_set (i := 6) sc__law_constant_right.nd rfl (Or.inl rfl) (pe_callB (r := rMax2) (call_max2 rfl) (by rfl) T.b_max boot_max (pa_cons pe_int (pa_cons (pe_callB (r := rMn) (call_min2 rfl) (by rfl) T.b_min boot_min (pa_cons (pe_op op_mul (pv 5) (pe_op op_sub (pv 1) (pv 2))) (pa_cons (pe_op op_mul (pe_op op_sub (pv 3) pe_int) (pv 1)) pa_nil))) pa_nil))))
      (pss_cons (ps_set (i := 7) sc__law_constant_right.nd rfl (Or.inl rfl) (pe_lst (pa_cons (pv 6) (pa_cons (pe_callB (r := rMn) (call_min2 rfl) (by rfl) T.b_min boot_min (pa_cons (pv 1) (pa_cons (pv 2) pa_nil))) (pa_cons (pe_callB (r := rMax2) (call_max2 rfl) (by rfl) T.b_max boot_max (pa_cons pe_int (pa_cons (pe_op op_sub (pv 2) (pv 1)) pa_nil))) pa_nil)))))
      (pss_cons (ps_if (pt_not (pt_val (pe_call (ok__law_alike T 2) (hr.mono (by decide)) (by rfl) T.g__law_alike T.F__law_alike.kp T.b__law_alike .nil pass0 (pa_cons (pe_lst (pa_cons (pe_meth (pv 4) T.cl_Bakery T.m_Bakery_stock (ok_Bakery_stock T) (hr.mono (by decide)) T.b_Bakery_stock .nil pass0 (pa_cons (pv 5) pa_nil)) (pa_cons (pe_meth (pv 4) T.cl_Bakery T.m_Bakery_sold (ok_Bakery_sold T) (hr.mono (by decide)) T.b_Bakery_sold .nil pass0 (pa_cons (pv 5) pa_nil)) (pa_cons (pe_meth (pv 4) T.cl_Bakery T.m_Bakery_missed (ok_Bakery_missed T) (hr.mono (by decide)) T.b_Bakery_missed .nil pass0 (pa_cons (pv 5) pa_nil)) pa_nil)))) (pa_cons (pv 7) pa_nil))))) (pss_one (ps_ret pe_bl)) pss_nil)
      (pss_cons (ps_set (i := 8) sc__law_constant_right.nd rfl (Or.inl rfl) (pe_op op_mul (pe_callB (r := rMn) (call_min2 rfl) (by rfl) T.b_min boot_min (pa_cons (pv 1) (pa_cons (pv 2) pa_nil))) (pv 5)))
      (pss_cons (ps_if (pt_not (pt_val (pe_call (ok__law_alike T 2) (hr.mono (by decide)) (by rfl) T.g__law_alike T.F__law_alike.kp T.b__law_alike .nil pass0 (pa_cons (pe_meth (pv 4) T.cl_Bakery T.m_Bakery_totals (ok_Bakery_totals T) (hr.mono (by decide)) T.b_Bakery_totals .nil pass0 (pa_cons (pv 5) pa_nil)) (pa_cons (pe_tup (pa_cons (pv 8) (pa_cons (pe_op op_sub (pe_op op_mul (pv 2) (pv 5)) (pv 8)) (pa_cons (pe_op op_sub (pe_op op_sub (pe_op op_mul (pv 1) (pv 5)) (pv 8)) (pv 6)) pa_nil)))) pa_nil))))) (pss_one (ps_ret pe_bl)) pss_nil)
      (pss_one (ps_ret (pe_call (ok__law_alike T 2) (hr.mono (by decide)) (by rfl) T.g__law_alike T.F__law_alike.kp T.b__law_alike .nil pass0 (pa_cons (pe_prop (pv 4) T.cl_Bakery T.pp_Bakery_long_run (ok_Bakery_long_run T) (hr.mono (by decide)) T.b_Bakery_long_run .nil pass0 rfl) (pa_cons (pe_tup (pa_cons (pe_callB (r := rMn) (call_min2 rfl) (by rfl) T.b_min boot_min (pa_cons (pv 1) (pa_cons (pv 2) pa_nil))) (pa_cons (pe_callB (r := rMax2) (call_max2 rfl) (by rfl) T.b_max boot_max (pa_cons pe_int (pa_cons (pe_op op_sub (pv 2) (pv 1)) pa_nil))) (pa_cons (pe_callB (r := rMax2) (call_max2 rfl) (by rfl) T.b_max boot_max (pa_cons pe_int (pa_cons (pe_op op_sub (pv 1) (pv 2)) pa_nil))) pa_nil)))) pa_nil)))))))))))), ?_⟩
    refine x_par3 (A := fun i => 0 ≤ i ∧ i < 50) (B := fun i => 0 ≤ i ∧ i < 50) (C := fun i => 1 ≤ i ∧ i ≤ 30) hs ((xi_next (A := fun i => i = 50) (fun G => ev_var rfl) (xi_ev ev_c rfl) (fun i e => by omega)).imp fun v q => ⟨q.1, by obtain ⟨i, e, q⟩ := q.2; omega⟩)
      ((xi_next (A := fun i => i = 50) (fun G => ev_var rfl) (xi_ev ev_c rfl) (fun i e => by omega)).imp fun v q => ⟨q.1, by obtain ⟨i, e, q⟩ := q.2; omega⟩)
      (xi_op0 (g := fun i j => i + j) (A := fun i => i = 1) (B := fun i => 0 ≤ i ∧ i < 30) (xi_ev ev_c rfl) ((xi_next (A := fun i => i = 30) (fun G => ev_var rfl) (xi_ev ev_c rfl) (fun i e => by omega)).imp fun v q => ⟨q.1, by obtain ⟨i, e, q⟩ := q.2; omega⟩) (fun i j hi hj => by omega)) fun b d life H1 d1 hb hd hlf => ?_
    have gd : Good [b] [d] := good_one (by omega) (by omega) (by omega) (by omega)
    refine x_par (P := fun u G => ∃ p, u = .ref p ∧ ∃ i, BakAt K Z G p [b] [d] life i) (Q := fun u _ => ∃ i, u = .int i ∧ 0 ≤ i ∧ i < 100000000000000000) d1.hs
      (x_bakT (bs := [b]) (ds := [d]) (eu_tup (ea_cons (ev_var rfl) ea_nil) (by show 1 ≤ 100000; decide)) (eu_tup (ea_cons (ev_var rfl) ea_nil) (by show 1 ≤ 100000; decide)) (ev_var rfl) gd hlf.1 hlf.2)
      ((xi_next (A := fun i => i = 40 ∨ i = 100000000000000000) (fun G => ev_var rfl) ((xi_pick (n := 2) (ns := [40, 100000000000000000]) (B := fun i => 0 ≤ i ∧ i < 2) (el_lst (ea_cons ev_c (ea_cons (ev_pow ⟨by decide, by decide, by decide⟩ (by decide)) ea_nil)) (by show 2 ≤ 100000; decide)) ((xi_next (A := fun i => i = 2) (fun G => ev_var rfl) (xi_ev ev_c rfl) (fun i e => by omega)).imp fun v q => ⟨q.1, by obtain ⟨i, e, q⟩ := q.2; omega⟩) (fun i q => by simpa using q)).imp fun i hi => by simpa using hi) (fun i e => by omega)).imp fun v q => ⟨q.1, by obtain ⟨i, e, q⟩ := q.2; omega⟩) fun u w' H2 H3 d2 d3 ⟨p, e, i, hB⟩ ⟨tn, e', t0, t1⟩ => ?_
    subst e e'
    obtain ⟨t, rfl⟩ : ∃ t : Nat, tn = (t : Int) := ⟨tn.toNat, by omega⟩
    have hB3 : BakAt K Z H3 p [b] [d] life i := (hB.mono d3.ex).mono wn_ex
    have D3 := (d1.trans d2).trans d3
    have eS := day_one (d := d) (life := life) hb.1 hlf.1 t
    refine q_asg (v := .int (max 0 (min ((t : Int) * (b - d)) ((life - 1) * b)))) (ev_maxi ev_c (ev_min2 (ev_op (ev_var rfl) (ev_op (ev_var rfl) (ev_var rfl) rv_I0) (rv_I (wide_ok (by omega)))) (ev_op (ev_op (ev_var rfl) ev_c rv_I0) (ev_var rfl) (rv_I (wide_ok (by omega)))))) fun H4 e4 => ?_
    generalize hS : max 0 (min ((t : Int) * (b - d)) ((life - 1) * b)) = S at eS
    refine q_asgL (xs := [S, min b d, max 0 (d - b)].map V.int) (el_lst (ea_cons (ev_var rfl) (ea_cons (by walk_at "ev") (ea_cons (by walk_at "ev") ea_nil))) (by show 3 ≤ 100000; decide)) fun p7 H5 hp7 e5 h5 => ?_
    have hB5 := hB3.mono (e4.trans e5)
    refine q_when (b := false) (et_not (a := true) (et_B (ev_callL (xs := [S, min b d, max 0 (d - b)].map V.int) (el_lst (ea_cons (ev_is (ev_meth (ev_var rfl) (hB5.nf _ (by decide)) (ea_cons (ev_var rfl) ea_nil) (spv_Bstock hB5 (by omega))) (congrArg V.int eS)) (ea_cons (ev_is (ev_meth (ev_var rfl) (hB5.nf _ (by decide)) (ea_cons (ev_var rfl) ea_nil) (spv_Bday (j := 0) hB5 (by omega))) (congrArg V.int (sol_one hb.1 hlf.1 t))) (ea_cons (ev_is (ev_meth (ev_var rfl) (hB5.nf _ (by decide)) (ea_cons (ev_var rfl) ea_nil) (spv_Bday (j := 1) hB5 (by omega))) (congrArg V.int (mis_one hb.1 hlf.1 t))) ea_nil))) (by show 3 ≤ 100000; decide)) (ev_var rfl) fun p8 G e hp => spv_alike (n := 2) (alk_ints (.inr ⟨sq_of hp, sq_of (e _ _ h5)⟩) (show 3 ≤ 1000 by decide))))) (fun hb => nomatch hb) fun _ H6 e6 => ?_
    have hB6 := hB5.mono e6
    refine q_asg (v := .int (min b d * (t : Int))) (ev_op (by walk_at "ev") (ev_var rfl) (rv_I (wide_ok (by omega)))) fun H7 e7 => ?_
    have hB7 := hB6.mono e7
    refine q_when (b := false) (et_not (a := true) (et_B (ev_callUU (xs := [min b d * (t : Int), d * (t : Int) - min b d * (t : Int), b * (t : Int) - min b d * (t : Int) - S].map V.int) (ys := [min b d * (t : Int), d * (t : Int) - min b d * (t : Int), b * (t : Int) - min b d * (t : Int) - S].map V.int) (by
        rw [← hS, ← tot_one (d := d) hb.1 hlf.1 t]
        exact eu_meth (ev_var rfl) (hB7.nf _ (by decide)) (ea_cons (ev_var rfl) ea_nil) (spu_Btot hB7 (by omega))) (eu_tup (ea_cons (ev_var rfl) (ea_cons (ev_op (ev_op (ev_var rfl) (ev_var rfl) (rv_I (wide_ok (by omega)))) (ev_var rfl) rv_I0) (ea_cons (ev_op (ev_op (ev_op (ev_var rfl) (ev_var rfl) (rv_I (wide_ok (by omega)))) (ev_var rfl) rv_I0) (ev_var rfl) rv_I0) ea_nil))) (by show 3 ≤ 100000; decide)) fun p q G e hp hq => spv_alike (n := 2) (alk_ints (.inl ⟨st_of hp, st_of hq⟩) (show 3 ≤ 1000 by decide))))) (fun hb => nomatch hb) fun _ H8 e8 => ?_
    have hB8 := hB7.mono e8
    refine s_ret (ev_callWU (xs := [min b d, max 0 (d - b), max 0 (b - d)].map V.int) (ys := [min b d, max 0 (d - b), max 0 (b - d)].map V.int) (by
        rw [← long_one gd hb.1 hlf.1]
        exact ew_long (ev_var rfl) hB8) (eu_tup (ea_cons (by walk_at "ev") (ea_cons (by walk_at "ev") (ea_cons (by walk_at "ev") ea_nil))) (by show 3 ≤ 100000; decide)) fun p q G e hp hq => spv_alike (n := 2) (alk_ints (.inl ⟨hp, st_of hq⟩) (show 3 ≤ 1000 by decide))) fun H9 e9 => k H9 (D3.trans (Dr.of d3.hs ((((((e4.trans e5).trans e6).trans e7).trans e8).trans e9))))
end Sw
namespace Sw
open PySem PySem.Spec PyProof.Rows L2 Evl
local macro_rules | `(tactic| walk_at "ev") => `(tactic| first
  | exact ev_c
  | exact ev_var rfl
  | ((with_reducible show Ev (tCB rMax2 _) _ _ _); exact ev_maxi (by walk_at "ev") (by walk_at "ev"))
  | ((with_reducible show Ev (tCB rMn _) _ _ _); exact ev_min2 (by walk_at "ev") (by walk_at "ev"))
  | ((with_reducible show Ev (tUn _ _) _ _ _); exact ev_un (by walk_at "ev") ru_neg)
  | ((with_reducible show Ev (tFld _ _ _) _ _ _); exact ev_fldK (by walk_at "ev") (by assumption))
  | ((with_reducible show Ev (tOp (rI0 _) _ _) _ _ _); exact ev_op (by walk_at "ev") (by walk_at "ev") rv_I0)
  | ((with_reducible show Ev (tOp rEq _ _) _ _ _); exact ev_op (by walk_at "ev") (by walk_at "ev") (rv_eq rfl))
  | ((with_reducible show Ev (tOp rNe _ _) _ _ _); exact ev_op (by walk_at "ev") (by walk_at "ev") (rv_ne rfl)))

section
variable {K : PySem.W.Frag} {Z : Ad} {σ : L2.St} {H H' : Hp} {ta tb tc td te tx tl : TE} {x y z v : V} {a b h l p q : Addr} {xs ys : List V} {ns bs ds : List Int} {life m : Int} {i t : Nat} {D : Ends} {tz tu : TS}
theorem ev_set {E : XK} (h : Ev ta σ H (.ref b)) (hB : BakAt K Z H b bs ds life i) : Ev (tProp Z.c_Bakery (sp_Bset K Z) [] E ta) σ H (.int (grw bs ds (keepL bs life) * (bs.length : Int) + (i : Int))) := fun H1 e Q q =>
  h H1 e _ fun H2 e2 => let ⟨dx, fs, h1⟩ := hB.inst; ⟨b, dx, fs, rfl, e2 _ _ (e _ _ h1), b, bs, ds, life, i, rfl, hB.mono (e.trans e2), fun H3 e3 => q H3 (e2.trans e3)⟩
theorem el_lcWI {g : Int → Int} {jj : Nat} {vs : List Nat} (hv : EvW K tl σ H (ns.map V.int)) (hz : ns.length ≤ 40000) (hw : ∀ x, wipe ((wipe σ vs).set jj (some x)) vs = wipe σ vs)
    (he : ∀ (n : Int) H1, Ex H H1 → Ev te ((wipe σ vs).set jj (some (.int n))) H1 (.int (g n))) : EvL (tLc (iTup K tl) (gName jj) tYes te vs) σ H ((ns.map g).map V.int) := fun H0 e0 Q q =>
  hv H0 e0 _ fun p H1 e1 hx => ⟨p, rfl, ⟨_, hx⟩, fun Dl hD => by
    have eq0 : (ns.map g).map V.int = given ns.length (fun _ => true) (fun i => .int (g (ns.getD i 0))) := by
      rw [given_all]
      apply List.ext_getElem
      · simp
      · intro i h1 h2
        simp at h1
        simp [List.getD, h1]
    rw [eq0] at q
    refine lc_it (walk_tup (xs := ns.map V.int)) (Cw H1 (fun _ => true) (fun i => .int (g (ns.getD i 0))) Dl) ⟨hD, Ex.new hD, upd_same⟩ (fun i H' _ p => ex_t p.2.1 hx) (fun i w H' H2 hi p y => ?_) (fun H' p => q Dl H' (fresh_back e1 p.1) (e1.trans p.2.1) (by rw [← List.length_map (f := V.int)]; exact p.2.2))
    obtain ⟨rfl, hx'⟩ := y
    obtain ⟨rfl, _⟩ := at_map hx'
    refine ⟨hw _, ?_⟩
    rw [List.length_map] at hi
    exact cw_turn p (by omega) et_yes (fun _ => he _ H1 (e0.trans e1))⟩
/-- [(d, g c) for d, c in ..] -/
theorem eps_lc {g : Int → Int} {j1 j2 : Nat} {vs : List Nat} {ps : List (Int × Int)} (hv : EvPs tl σ H ps) (hz : ps.length ≤ 40000) (hw : ∀ x y, wipe (((wipe σ vs).set j1 (some x)).set j2 (some y)) vs = wipe σ vs)
    (he : ∀ (d c : Int) H1, Ex H H1 → EvU te (((wipe σ vs).set j1 (some (.int d))).set j2 (some (.int c))) H1 [.int d, .int (g c)]) :
    EvPs (tLc (iList K tl) (gTup K 2 (gCons (gName j1) (gCons (gName j2) gNil))) tYes te vs) σ H (ps.map fun p => (p.1, g p.2)) := fun H0 e0 Q q =>
  hv H0 e0 _ fun p xs H1 hp e1 h1 hP => ⟨p, rfl, ⟨xs, sq_of h1⟩, fun Dl hD => by
    refine lc_list (xs := xs) (fun i H' => Ex H1 H' ∧ ∃ ys, H' Dl = some (.lst ys) ∧ PairsAt H' ys ((ps.take i).map fun p => (p.1, g p.2))) ⟨Ex.new hD, [], upd_same, ⟨rfl, fun i u d c z => by cases z⟩⟩ (fun i H' _ p => ex_l p.1 (sq_of h1)) (fun i x H' hi pv => ?_) (fun H' pv => ?_)
    · obtain ⟨e2, ys, hy, hQ⟩ := pv
      have hlt := (List.getElem?_eq_some_iff.mp hi).1
      have hlt' : i < ps.length := by rw [← hP.1]; exact hlt
      obtain ⟨T, rfl, hT⟩ := hP.2 i x (ps[i]).1 (ps[i]).2 hi (by rw [List.getElem?_eq_getElem hlt'])
      refine ⟨T, [.int (ps[i]).1, .int (ps[i]).2], rfl, st_of (e2 _ _ hT), rfl, _, _, rfl, _, _, rfl, rfl, hw _ _, ?_⟩
      show te _ H' _
      refine he _ _ H1 (e0.trans e1) H' e2 _ fun r H4 hr e34 h4 => ?_
      have hy4 := e34 _ _ hy
      have hl : ys.length = i := by rw [hQ.1, List.length_map, List.length_take]; omega
      refine ⟨ys, hy4, sz_lt (by omega), Ex.mut (e2.trans e34) hD, _, upd_same, ?_⟩
      have et : (ps.take (i + 1)).map (fun p => (p.1, g p.2)) = (ps.take i).map (fun p => (p.1, g p.2)) ++ [((ps[i]).1, g (ps[i]).2)] := by
        rw [List.take_succ_eq_append_getElem hlt', List.map_append]; rfl
      rw [et]
      exact (hQ.mono e34).app hy4 h4
    · obtain ⟨e2, ys, hy, hQ⟩ := pv
      rw [hP.1, List.take_length] at hQ
      exact q Dl ys H' (fresh_back e1 hD) (e1.trans e2) hy hQ⟩
theorem ev_callPP {sp : Sp} {E : XK} {ps qs : List (Int × Int)} (ha : EvPs ta σ H ps) (hb : EvPs tb σ H qs) (hs : ∀ p q xs ys H1, Ex H H1 → H1 p = some (.lst xs) → H1 q = some (.lst ys) → PairsAt H1 xs ps → PairsAt H1 ys qs → SpV sp [.ref p, .ref q] H1 z) : Ev (tCall sp [] E (tCons ta (tCons tb tNil))) σ H z := fun H1 e Q k =>
  ha H1 e _ fun p xs H2 _ e2 hp hP => hb H2 (e.trans e2) _ fun q ys H3 _ e3 hq hQ => hs p q xs ys H3 ((e.trans e2).trans e3) (e3 _ _ hp) hq (hP.mono e3) hQ H3 (Ex.refl _) Q (fun H4 e4 => k H4 ((e2.trans e3).trans e4)) E
theorem alk_pairs {ps : List (Int × Int)} (hp : H p = some (.lst xs)) (hq : H q = some (.lst ys)) (hP : PairsAt H xs ps) (hQ : PairsAt H ys ps) (hl : ps.length ≤ 1000) : Alk K H 2 (.ref p) (.ref q) :=
  .inr ⟨p, q, xs, ys, rfl, rfl, .inr ⟨sq_of hp, sq_of hq⟩, by rw [hP.1, hQ.1], by rw [hP.1]; exact hl, fun i u v hu hv => by
    have hlt := (List.getElem?_eq_some_iff.mp hu).1
    have hlt' : i < ps.length := by rw [← hP.1]; exact hlt
    have hg : ps[i]? = some ((ps[i]).1, (ps[i]).2) := by rw [List.getElem?_eq_getElem hlt']
    obtain ⟨p', rfl, h1⟩ := hP.2 i u _ _ hu hg
    obtain ⟨q', rfl, h2⟩ := hQ.2 i v _ _ hv hg
    exact alk_ints (ns := [(ps[i]).1, (ps[i]).2]) (n := 0) (.inl ⟨st_of h1, st_of h2⟩) (show 2 ≤ 1000 by decide)⟩
theorem ev_alkNest {E : XK} (ha : EvW K ta σ H (ns.map V.int)) (hb : Ev tb σ H (.int 0)) (hc : Ev tc σ H (.int 0)) (hd : Ev td σ H (.ref p)) (hp : SqT K H p (ns.map V.int)) (hl : ns.length ≤ 1000) :
    Ev (tCall (sp_alike K 2) [] E (tCons (tLst (tCons ta (tCons tb (tCons tc tNil)))) (tCons (tLst (tCons td (tCons (tC (.int 0)) (tCons (tC (.int 0)) tNil)))) tNil))) σ H (.bl true) := fun H1 e Q k =>
  ha H1 e _ fun r H2 e2 hr => hb H2 (e.trans e2) _ fun H3 e3 => hc H3 ((e.trans e2).trans e3) _ fun H4 e4 => ⟨by show 3 ≤ sizeLine; decide, fun u hu => by
    have e14 := (e2.trans e3).trans e4
    have e5 := Ex.new (o := .lst [.ref r, .int 0, .int 0]) hu
    refine hd _ ((e.trans e14).trans e5) _ fun H6 e6 => ?_
    refine ⟨by show 3 ≤ sizeLine; decide, fun w hw => ?_⟩
    have e7 := Ex.new (o := .lst [.ref p, .int 0, .int 0]) hw
    refine ⟨_, _, rfl, .inr ⟨u, w, [.ref r, .int 0, .int 0], [.ref p, .int 0, .int 0], rfl, rfl, .inr ⟨sq_of (e7 _ _ (e6 _ _ upd_same)), sq_of upd_same⟩, rfl, by show 3 ≤ 1000; decide, fun j x y hx hy => ?_⟩, fun H8 e8 => k H8 ((((e14.trans e5).trans e6).trans e7).trans e8)⟩
    match j with
    | 0 =>
      cases hx; cases hy
      exact alk_ints (n := 0) (.inl ⟨ex_t (((e3.trans e4).trans e5).trans (e6.trans e7)) hr, ex_t ((((e.trans e14).trans e5).trans e6).trans e7) hp⟩) hl
    | 1 => cases hx; cases hy; exact .inl (.inl ⟨_, rfl, rfl⟩)
    | 2 => cases hx; cases hy; exact .inl (.inl ⟨_, rfl, rfl⟩)
    | j + 3 => cases hx⟩
theorem q_bak1 {t : TA} {E : XK} {pb pd : Addr} {i1 : Nat} (hs : HS H h l) (ht : EvA t σ H [.ref pb, .ref pd, .int life]) (hb : SqT K (wn H (hl h l)) pb (bs.map V.int)) (hd : SqT K (wn H (hl h l)) pd (ds.map V.int)) (gd : Good bs ds) (l0 : 1 ≤ life) (l1 : life ≤ 30)
    (k : ∀ (b : Addr) (i : Nat) (H' : Hp), Dr h l H H' → BakAt K Z (wn H' (hl h l)) b bs ds life i → tz D (σ.set i1 (some (.ref b))) H') : tSeq (tAsg (tMake Z.c_Bakery (sp_Binit K Z) [] E t) (gName i1)) tz D σ H := by
  dsimp only [tSeq, tAsg, gName]
  exact er_bakery ht hb hd gd l0 l1 H (Ex.refl _) hs.kn _ fun b H3 hb0 e3 ⟨i, hB⟩ => k b i H3 (Dr.of hs e3) hB
theorem wipe2 {j1 j2 : Nat} (hne : j1 ≠ j2) (x y : V) : wipe (((wipe σ [j1, j2]).set j1 (some x)).set j2 (some y)) [j1, j2] = wipe σ [j1, j2] := by
  simp only [wipe]
  rw [List.set_set, List.set_set, List.set_comm _ _ hne, List.set_set, List.set_set]
theorem q_orX {t u : TT} (ht : EvT t σ H false) (hu : ∀ H1, Ex H H1 → ∀ Q : Bool → Hp → Prop, (∀ H2, Dr h l H H2 → Q false H2) → u σ H1 Q) (k : ∀ H2, Dr h l H H2 → tz D σ H2) : tSeq (tIfS (tOr t u) tu tNext) tz D σ H :=
  ht H (Ex.refl _) _ fun H1 e1 => by
    show u σ H1 _
    exact hu H1 e1 _ fun H2 d => k H2 d
/-! ### the law's mathematics -/
def salL (bs ds : List Int) : List Int := (List.range bs.length).map fun (k : Nat) => min (bs.getD k 0) (ds.getD k 0)
theorem sum_psum (f : Nat → Int) (n : Nat) : ((List.range n).map f).sum = psum f n := by
  induction n with
  | zero => rfl
  | succ n ih => rw [List.range_succ, List.map_append, List.sum_append, ih]; show _ = psum f n + f n; simp
theorem long_life1 (gd : Good bs ds) : longI bs ds (lmOf bs ds (keepL bs 1)) = [(salL bs ds).sum, ds.sum - (salL bs ds).sum, bs.sum - (salL bs ds).sum] := by
  have cm : CoM bs ds (keepL bs 1) := ⟨gd, keepL_len, fun _ => keepL_nn gd.b0⟩
  have e : (lmOf bs ds (keepL bs 1)).sum = ds.sum - (salL bs ds).sum := by
    rw [lm_sum cm]
    unfold salL
    rw [sum_psum, ← psum_sum ds, gd.ld, ← psum_sub]
    refine psum_congr fun j hj => ?_
    unfold misS dm bk
    rw [day_life1, Nat.add_mod_left, Nat.mod_eq_of_lt hj]
    omega
  unfold longI
  rw [e]
  congr 1
  · omega
  congr 1
  congr 1
  omega
theorem set_life1 (hB : BakAt K Z H b bs ds 1 i) : grw bs ds (keepL bs 1) * (bs.length : Int) + (i : Int) = 0 := by
  obtain ⟨s0, s1⟩ := settled_small hB.com (by decide) (by decide) hB.hi
  by_cases h0 : grw bs ds (keepL bs 1) * (bs.length : Int) + (i : Int) = 0
  · exact h0
  · have := settled_least hB.com hB.hi (t := (grw bs ds (keepL bs 1) * (bs.length : Int) + (i : Int) - 1).toNat) (by omega)
    rw [day_life1, day_life1] at this
    exact absurd rfl this
theorem sol_life1 (t : Nat) (h0 : 0 < bs.length) : solS bs ds (keepL bs 1) t = (salL bs ds).getD (t % bs.length) 0 := by
  have hlt := Nat.mod_lt t h0
  unfold solS misS dm bk salL
  rw [day_life1]
  have e : (List.map (fun k => min (bs.getD k 0) (ds.getD k 0)) (List.range bs.length)).getD (t % bs.length) 0 = min (bs.getD (t % bs.length) 0) (ds.getD (t % bs.length) 0) := by
    rw [List.getD, List.getElem?_map, List.getElem?_range hlt]; rfl
  rw [e]
  omega
theorem set_scale (hm : 0 < m) {p q : Addr} {i j : Nat} (hB : BakAt K Z H p bs ds life i) (hB' : BakAt K Z H' q (bs.map (m * ·)) (ds.map (m * ·)) life j) :
    grw (bs.map (m * ·)) (ds.map (m * ·)) (keepL (bs.map (m * ·)) life) * ((bs.map (m * ·)).length : Int) + (j : Int) = grw bs ds (keepL bs life) * (bs.length : Int) + (i : Int) := by
  obtain ⟨s0, s1⟩ := settled_small hB.com hB.l0 hB.l1 hB.hi
  obtain ⟨r0, r1⟩ := settled_small hB'.com hB.l0 hB.l1 hB'.hi
  have sm := fun t => dayS_scale (bs := bs) (ds := ds) (life := life) (Int.le_of_lt hm) hB.gd.n0 t
  have same := fun {t : Nat} => settled_same hB.com hB.hi (t := t)
  have same' := fun {t : Nat} => settled_same hB'.com hB'.hi (t := t)
  have least := fun {t : Nat} => settled_least hB.com hB.hi (t := t)
  have least' := fun {t : Nat} => settled_least hB'.com hB'.hi (t := t)
  generalize grw bs ds (keepL bs life) * (bs.length : Int) + (i : Int) = D1 at *
  generalize grw (bs.map (m * ·)) (ds.map (m * ·)) (keepL (bs.map (m * ·)) life) * ((bs.map (m * ·)).length : Int) + (j : Int) = D2 at *
  rw [List.length_map] at same' least'
  rcases Int.lt_trichotomy D1 D2 with z | z | z
  · have q1 := same (t := (D2 - 1).toNat) (by omega)
    have q2 := least' (t := (D2 - 1).toNat) (by omega)
    rw [sm, sm, q1] at q2
    exact absurd rfl q2
  · exact z.symm
  · have q1 := same' (t := (D1 - 1).toNat) (by omega)
    have q2 := least (t := (D1 - 1).toNat) (by omega)
    rw [sm, sm] at q1
    exact absurd (Int.eq_of_mul_eq_mul_left (by omega) q1) q2
theorem tot_scale (hm : 0 ≤ m) (h0 : 0 < bs.length) (t : Nat) : totS (bs.map (m * ·)) (ds.map (m * ·)) (keepL (bs.map (m * ·)) life) t = (totS bs ds (keepL bs life) t).map (m * ·) := by
  unfold totS
  rw [psum_scale (sol_scale hm h0) t, psum_scale (mis_scale hm h0) t, psum_scale (thr_scale hm h0) t]
  rfl
theorem shelf_scale (hm : 0 < m) (h0 : 0 < bs.length) (t : Nat) : shelfL (bs.map (m * ·)) (ds.map (m * ·)) life t = (shelfL bs ds life t).map fun p => (p.1, m * p.2) := by
  unfold shelfL
  rw [dayS_scale (Int.le_of_lt hm) h0, newest_scale hm, List.map_reverse]
theorem good_scale (gd : Good bs ds) (m0 : 0 ≤ m) (m1 : m ≤ 10) (hb : ∀ x ∈ bs, x ≤ 25000) (hd : ∀ x ∈ ds, x ≤ 25000) : Good (bs.map (m * ·)) (ds.map (m * ·)) := by
  have bnd : ∀ x : Int, 0 ≤ x → x ≤ 25000 → 0 ≤ m * x ∧ m * x ≤ 1000000000 := fun x a b => ⟨Int.mul_nonneg m0 a, by have := Int.mul_le_mul m1 b a (by decide : (0 : Int) ≤ 10); omega⟩
  refine ⟨by rw [List.length_map]; exact gd.n0, by rw [List.length_map]; exact gd.n1, by rw [List.length_map, List.length_map]; exact gd.ld, fun x hx => ?_, fun x hx => ?_⟩
  · obtain ⟨y, hy, rfl⟩ := List.mem_map.mp hx
    exact bnd y (gd.b0 y hy).1 (hb y hy)
  · obtain ⟨y, hy, rfl⟩ := List.mem_map.mp hx
    exact bnd y (gd.d0 y hy).1 (hd y hy)
end
end Sw
namespace Sw
open PySem PySem.Spec PyProof.Rows L2 Evl
local macro_rules | `(tactic| walk_at "ev") => `(tactic| first
  | exact ev_c
  | exact ev_var rfl
  | ((with_reducible show Ev (tCB rMax2 _) _ _ _); exact ev_maxi (by walk_at "ev") (by walk_at "ev"))
  | ((with_reducible show Ev (tCB rMn _) _ _ _); exact ev_min2 (by walk_at "ev") (by walk_at "ev"))
  | ((with_reducible show Ev (tUn _ _) _ _ _); exact ev_un (by walk_at "ev") ru_neg)
  | ((with_reducible show Ev (tFld _ _ _) _ _ _); exact ev_fldK (by walk_at "ev") (by assumption))
  | ((with_reducible show Ev (tOp (rI0 _) _ _) _ _ _); exact ev_op (by walk_at "ev") (by walk_at "ev") rv_I0)
  | ((with_reducible show Ev (tOp rEq _ _) _ _ _); exact ev_op (by walk_at "ev") (by walk_at "ev") (rv_eq rfl))
  | ((with_reducible show Ev (tOp rNe _ _) _ _ _); exact ev_op (by walk_at "ev") (by walk_at "ev") (rv_ne rfl)))

variable {P : Program} {w : World} {K : PySem.W.Frag} {mg : Str → Option Value} {base : Heap} {Z : Ad}
theorem ok_law (T : Txt K mg Z) : FnOk P w K mg base CX0 9 Z.f_law Z.d_law p_law (sp_law K) := by
  refine T.F_law.ok sc_law (fun vs H Q E h => ?_) (fun cdv Ar outer s H vs Q E hr h => ?_)
  · obtain ⟨a, ns, rfl, _⟩ := h
    rfl
  · obtain ⟨a, ns, rfl, hS, hn, k⟩ := h
    refine ⟨_, (pss_cons (ps_set (i := 1) sc_law.nd rfl (Or.inl rfl) (pe_call (ok__law_mix T) (hr.mono (by decide)) (by rfl) T.g__law_mix T.F__law_mix.kp T.b__law_mix .nil pass0 (pa_cons (pv 0) (pa_cons pe_int pa_nil))))
      (pss_cons (ps_for PassesOwn.never rfl (pi_range1 (by rfl) T.b_range (pa_cons pe_int pa_nil)) (pg_name (i := 2) sc_law.nd rfl (Or.inl rfl)) (pss_cons (ps_asg (pe_call (ok__law_parts T) (hr.mono (by decide)) (by rfl) T.g__law_parts T.F__law_parts.kp T.b__law_parts .nil pass0 (pa_cons (pv 1) (pa_cons pe_int (pa_cons pe_int pa_nil)))) (by exact (pg_tupK K (n := 3) rfl rfl (pgs_cons (pg_name (i := 3) sc_law.nd rfl (Or.inr rfl)) (pgs_cons (pg_name (i := 4) sc_law.nd rfl (Or.inr rfl)) (pgs_cons (pg_name (i := 5) sc_law.nd rfl (Or.inl rfl)) pgs_nil))))))
      (pss_cons (ps_par (i := 6) (j := 7) rfl sc_law.nd rfl rfl (by decide) rfl rfl (pa_cons (pe_callB (r := rLenS K) (call_len_seq) (by rfl) T.b_len boot_len (pa_cons (pv 3) pa_nil)) (pa_cons (pe_call (ok__law_next T) (hr.mono (by decide)) (by rfl) T.g__law_next T.F__law_next.kp T.b__law_next .nil pass0 (pa_cons (pv 1) (pa_cons (pe_op op_pow pe_int pe_int) pa_nil))) pa_nil)) (by rfl))
      (pss_cons (ps_set (i := 8) sc_law.nd rfl (Or.inl rfl) (pe_make T.mk_Bakery (ok_Bakery___init__ T) (hr.mono (by decide)) (by rfl) T.g_Bakery T.b_Bakery___init__ .nil pass0 (pa_cons (pv 3) (pa_cons (pv 4) (pa_cons pe_int pa_nil)))))
      (pss_cons (ps_setLc (i := 9) (own := [("_law_k", 14)]) rfl sc_law.nd rfl rfl (sw_true rfl rfl rfl (by decide +kernel)) (pi_range1 (by rfl) T.b_range (pa_cons (pv 6) pa_nil)) (blkOk_by (own := [("_law_k", 14)]) (N := n_law) (sc := defScope s_law) (scope := { kind := PySem.ScopeKind.function, names := [ (PySem.Str.ofString ".0", PySem.NameKind.local), (PySem.Str.ofString "_law_k", PySem.NameKind.local), (PySem.Str.ofString "min", PySem.NameKind.globalImplicit), (PySem.Str.ofString "_law_bakes", PySem.NameKind.free), (PySem.Str.ofString "_law_demands", PySem.NameKind.free)], isGenerator := false, isCoroutine := false, more := [] : PySem.Scope }) (by decide +kernel)) (fun _ _ _ _ _ => (pg_name (i := 14) sc_law.nd rfl (Or.inl rfl))) (fun _ _ _ _ _ => pts_nil) (fun _ _ _ _ _ => (pe_callB (r := rMn) (call_min2 rfl) (by rfl) T.b_min boot_min (pa_cons (pe_ix (r := rIxT K) ix_tup (pv 3) (pv 14) (fun _ _ => rfl)) (pa_cons (pe_ix (r := rIxT K) ix_tup (pv 4) (pv 14) (fun _ _ => rfl)) pa_nil)))))
      (pss_cons (ps_set (i := 10) sc_law.nd rfl (Or.inl rfl) (pe_tup (pa_cons (pe_callB (r := rSum K) (cr_sum rfl) (by rfl) T.b_sum boot_sum (pa_cons (pv 9) pa_nil)) (pa_cons (pe_op op_sub (pe_callB (r := rSumT K) (cr_sumT rfl) (by rfl) T.b_sum boot_sum (pa_cons (pv 4) pa_nil)) (pe_callB (r := rSum K) (cr_sum rfl) (by rfl) T.b_sum boot_sum (pa_cons (pv 9) pa_nil))) (pa_cons (pe_op op_sub (pe_callB (r := rSumT K) (cr_sumT rfl) (by rfl) T.b_sum boot_sum (pa_cons (pv 3) pa_nil)) (pe_callB (r := rSum K) (cr_sum rfl) (by rfl) T.b_sum boot_sum (pa_cons (pv 9) pa_nil))) pa_nil)))))
      (pss_cons (ps_if (pt_not (pt_val (pe_call (ok__law_alike T 2) (hr.mono (by decide)) (by rfl) T.g__law_alike T.F__law_alike.kp T.b__law_alike .nil pass0 (pa_cons (pe_lst (pa_cons (pe_prop (pv 8) T.cl_Bakery T.pp_Bakery_long_run (ok_Bakery_long_run T) (hr.mono (by decide)) T.b_Bakery_long_run .nil pass0 rfl) (pa_cons (pe_prop (pv 8) T.cl_Bakery T.pp_Bakery_settled_day (ok_Bakery_settled_day T) (hr.mono (by decide)) T.b_Bakery_settled_day .nil pass0 rfl) (pa_cons (pe_meth (pv 8) T.cl_Bakery T.m_Bakery_stock (ok_Bakery_stock T) (hr.mono (by decide)) T.b_Bakery_stock .nil pass0 (pa_cons (pv 7) pa_nil)) pa_nil)))) (pa_cons (pe_lst (pa_cons (pv 10) (pa_cons pe_int (pa_cons pe_int pa_nil)))) pa_nil))))) (pss_one (ps_ret pe_bl)) pss_nil)
      (pss_cons (ps_if (PW.pt (pw_or (pt_not (pt_val (pe_call (ok__law_alike T 2) (hr.mono (by decide)) (by rfl) T.g__law_alike T.F__law_alike.kp T.b__law_alike .nil pass0 (pa_cons (pe_meth (pv 8) T.cl_Bakery T.m_Bakery_sold (ok_Bakery_sold T) (hr.mono (by decide)) T.b_Bakery_sold .nil pass0 (pa_cons (pv 7) pa_nil)) (pa_cons (pe_ix (r := rIxL K) ix_list (pv 9) (pe_op op_mod (pv 7) (pv 6)) (fun _ _ => rfl)) pa_nil))))) (pw_or1 (pt_not (pt_val (pe_call (ok__law_constant_right T) (hr.mono (by decide)) (by rfl) T.g__law_constant_right T.F__law_constant_right.kp T.b__law_constant_right .nil pass0 (pa_cons (pv 1) pa_nil))))))) (pss_one (ps_ret pe_bl)) pss_nil)
      (pss_cons (ps_set (i := 11) sc_law.nd rfl (Or.inr rfl) (pe_op op_add pe_int (pe_call (ok__law_next T) (hr.mono (by decide)) (by rfl) T.g__law_next T.F__law_next.kp T.b__law_next .nil pass0 (pa_cons (pv 1) (pa_cons pe_int pa_nil)))))
      (pss_cons (ps_set (i := 12) sc_law.nd rfl (Or.inl rfl) (pe_make T.mk_Bakery (ok_Bakery___init__ T) (hr.mono (by decide)) (by rfl) T.g_Bakery T.b_Bakery___init__ .nil pass0 (pa_cons (pv 3) (pa_cons (pv 4) (pa_cons (pv 5) pa_nil)))))
      (pss_cons (ps_set (i := 13) sc_law.nd rfl (Or.inl rfl) (pe_make T.mk_Bakery (ok_Bakery___init__ T) (hr.mono (by decide)) (by rfl) T.g_Bakery T.b_Bakery___init__ .nil pass0 (pa_cons (pe_callTy (r := rTupS K) (call_tuple_of) (by rfl) T.b_tuple boot_tuple (pa_cons (pe_lc (own := [("_law_bake", 15)]) rfl sc_law.nd (pi_tupK K rfl (pv 3)) (blkOk_by (own := [("_law_bake", 15)]) (N := n_law) (sc := defScope s_law) (scope := { kind := PySem.ScopeKind.function, names := [ (PySem.Str.ofString ".0", PySem.NameKind.local), (PySem.Str.ofString "_law_bake", PySem.NameKind.local), (PySem.Str.ofString "_law_times", PySem.NameKind.free)], isGenerator := false, isCoroutine := false, more := [] : PySem.Scope }) (by decide +kernel)) (fun _ _ _ _ _ => (pg_name (i := 15) sc_law.nd rfl (Or.inl rfl))) (fun _ _ _ _ _ => pts_nil) (fun _ _ _ _ _ => (pe_op op_mul (pv 11) (pv 15)))) pa_nil)) (pa_cons (pe_callTy (r := rTupS K) (call_tuple_of) (by rfl) T.b_tuple boot_tuple (pa_cons (pe_lc (own := [("_law_wish", 16)]) rfl sc_law.nd (pi_tupK K rfl (pv 4)) (blkOk_by (own := [("_law_wish", 16)]) (N := n_law) (sc := defScope s_law) (scope := { kind := PySem.ScopeKind.function, names := [ (PySem.Str.ofString ".0", PySem.NameKind.local), (PySem.Str.ofString "_law_wish", PySem.NameKind.local), (PySem.Str.ofString "_law_times", PySem.NameKind.free)], isGenerator := false, isCoroutine := false, more := [] : PySem.Scope }) (by decide +kernel)) (fun _ _ _ _ _ => (pg_name (i := 16) sc_law.nd rfl (Or.inl rfl))) (fun _ _ _ _ _ => pts_nil) (fun _ _ _ _ _ => (pe_op op_mul (pv 11) (pv 16)))) pa_nil)) (pa_cons (pv 5) pa_nil)))))
      (pss_cons (ps_if (pt_not (pt_val (pe_call (ok__law_alike T 2) (hr.mono (by decide)) (by rfl) T.g__law_alike T.F__law_alike.kp T.b__law_alike .nil pass0 (pa_cons (pe_meth (pv 13) T.cl_Bakery T.m_Bakery_totals (ok_Bakery_totals T) (hr.mono (by decide)) T.b_Bakery_totals .nil pass0 (pa_cons (pv 7) pa_nil)) (pa_cons (pe_callTy (r := rTupS K) (call_tuple_of) (by rfl) T.b_tuple boot_tuple (pa_cons (pe_lc (own := [("_law_part", 19)]) rfl sc_law.nd (pi_tupK K rfl (pe_meth (pv 12) T.cl_Bakery T.m_Bakery_totals (ok_Bakery_totals T) (hr.mono (by decide)) T.b_Bakery_totals .nil pass0 (pa_cons (pv 7) pa_nil))) (blkOk_by (own := [("_law_part", 19)]) (N := n_law) (sc := defScope s_law) (scope := { kind := PySem.ScopeKind.function, names := [ (PySem.Str.ofString ".0", PySem.NameKind.local), (PySem.Str.ofString "_law_part", PySem.NameKind.local), (PySem.Str.ofString "_law_times", PySem.NameKind.free)], isGenerator := false, isCoroutine := false, more := [] : PySem.Scope }) (by decide +kernel)) (fun _ _ _ _ _ => (pg_name (i := 19) sc_law.nd rfl (Or.inl rfl))) (fun _ _ _ _ _ => pts_nil) (fun _ _ _ _ _ => (pe_op op_mul (pv 11) (pv 19)))) pa_nil)) pa_nil))))) (pss_one (ps_ret pe_bl)) pss_nil)
      (pss_cons (ps_if (pt_not (pt_val (pe_call (ok__law_alike T 2) (hr.mono (by decide)) (by rfl) T.g__law_alike T.F__law_alike.kp T.b__law_alike .nil pass0 (pa_cons (pe_meth (pv 13) T.cl_Bakery T.m_Bakery_shelf (ok_Bakery_shelf T) (hr.mono (by decide)) T.b_Bakery_shelf .nil pass0 (pa_cons (pv 7) pa_nil)) (pa_cons (pe_lc (own := [("_law_baked", 17), ("_law_count", 18)]) rfl sc_law.nd (pi_listK K rfl (pe_meth (pv 12) T.cl_Bakery T.m_Bakery_shelf (ok_Bakery_shelf T) (hr.mono (by decide)) T.b_Bakery_shelf .nil pass0 (pa_cons (pv 7) pa_nil))) (blkOk_by (own := [("_law_baked", 17), ("_law_count", 18)]) (N := n_law) (sc := defScope s_law) (scope := { kind := PySem.ScopeKind.function, names := [ (PySem.Str.ofString ".0", PySem.NameKind.local), (PySem.Str.ofString "_law_baked", PySem.NameKind.local), (PySem.Str.ofString "_law_count", PySem.NameKind.local), (PySem.Str.ofString "_law_times", PySem.NameKind.free)], isGenerator := false, isCoroutine := false, more := [] : PySem.Scope }) (by decide +kernel)) (fun _ _ _ _ _ => (by exact (pg_tupK K (n := 2) rfl rfl (pgs_cons (pg_name (i := 17) sc_law.nd rfl (Or.inl rfl)) (pgs_cons (pg_name (i := 18) sc_law.nd rfl (Or.inl rfl)) pgs_nil))))) (fun _ _ _ _ _ => pts_nil) (fun _ _ _ _ _ => (pe_tup (pa_cons (pv 17) (pa_cons (pe_op op_mul (pv 11) (pv 18)) pa_nil))))) pa_nil))))) (pss_one (ps_ret pe_bl)) pss_nil)
      (pss_one (ps_if (pt_cmpR op_ne (pe_prop (pv 13) T.cl_Bakery T.pp_Bakery_settled_day (ok_Bakery_settled_day T) (hr.mono (by decide)) T.b_Bakery_settled_day .nil pass0 rfl) (pe_prop (pv 12) T.cl_Bakery T.pp_Bakery_settled_day (ok_Bakery_settled_day T) (hr.mono (by decide)) T.b_Bakery_settled_day .nil pass0 rfl) (nomark _)) (pss_one (ps_ret pe_bl)) pss_nil)))))))))))))))
      (pss_one (ps_ret pe_bl)))), ?_⟩
    refine ⟨_, rfl, a, ns, 12, rfl, hS, hn, by decide, by decide, fun h l H1 hh hl' e1 hs1 => ?_⟩
    refine q_forR1 (n := 3) (ea_cons ev_c ea_nil) ⟨by decide, by decide⟩ (fun _ σ' H' => (∃ x2 x3 x4 x5 x6 x7 x8 x9 x10 x11 x12 x13 x14 x15 x16 x17 x18 x19, σ' = [some (.ref a), some (.ref h), x2, x3, x4, x5, x6, x7, x8, x9, x10, x11, x12, x13, x14, x15, x16, x17, x18, x19]) ∧ HS H' h l) (fun H2 e2 => ⟨⟨_, _, _, _, _, _, _, _, _, _, _, _, _, _, _, _, _, _, rfl⟩, hs1.mono e2⟩) ?_ (fun σ' H' _ => s_ret ev_c fun H2 _ => k H2)
    rintro turn σ' H0 _ ⟨⟨_, _, _, _, _, _, _, _, _, _, _, _, _, _, _, _, _, _, rfl⟩, hs0⟩
    -- what is drawn
    refine x_asgG (P := fun v G => ∃ p pb pd bs ds life most, v = .ref p ∧ G p = some (.tup [.ref pb, .ref pd, .int life]) ∧ Parts K G pb pd bs ds life most 1000) hs0 (x_call3 (A := fun i => i = 6) (B := fun i => i = 1000) (fun G => ev_var rfl)
      (xi_ev ev_c rfl) (xi_ev ev_c rfl)
      (fun i j H2 hi hj d Q q => by
        subst hi hj
        exact ⟨h, l, 6, 1000, rfl, by decide, by decide, by decide, by decide, d.hs, fun p pb pd bs ds life H3 d3 hp hP => q _ H3 d3 ⟨p, pb, pd, bs, ds, life, 6, rfl, hp, hP⟩⟩)) fun v H2 d2 ⟨p, pb, pd, bs, ds, life, most, e, hp, hP⟩ => ?_
    subst e
    refine ⟨p, _, rfl, st_of (wn_ex _ _ hp), rfl, _, _, rfl, _, _, rfl, _, _, rfl, rfl, ?_⟩
    have gd := hP.gd
    have n0 := gd.n0
    have n1 := gd.n1
    have ld := gd.ld
    have lenE : ((bs.map V.int).length : Int) = (bs.length : Int) := by rw [List.length_map]
    -- its size, a day
    refine x_par (P := fun u _ => u = .int (bs.length : Int)) (Q := fun u _ => ∃ i, u = .int i ∧ 0 ≤ i ∧ i < 100000000000000000) d2.hs (x_ev (Ev.int_eq (ev_lenT (ev_var rfl) hP.hb) lenE)) ((xi_next (A := fun i => i = 100000000000000000) (fun G => ev_var rfl) (xi_ev (ev_pow ⟨by decide, by decide, by decide⟩ (by decide)) rfl) (fun i e => by omega)).imp fun v q => ⟨q.1, by obtain ⟨i, e, q⟩ := q.2; omega⟩) fun u v Ha H3 da d3' e ⟨tn, e', t0, t1⟩ => ?_
    subst e e'
    obtain ⟨t, rfl⟩ : ∃ t : Nat, tn = (t : Int) := ⟨tn.toNat, by omega⟩
    have d3 := da.trans d3'
    have hb3 := ex_t d3.ex hP.hb
    have hd3 := ex_t d3.ex hP.hd
    -- life 1
    refine q_bak1 (life := 1) d3.hs (ea_cons (ev_var rfl) (ea_cons (ev_var rfl) (ea_cons ev_c ea_nil))) hb3 hd3 gd (by decide) (by decide) fun b i H4 d4 hB4 => ?_
    have hb4 := ex_t d4.ex hb3
    have hd4 := ex_t d4.ex hd3
    refine x_asg (P := LI fun ns => ns = salL bs ds) d4.hs (x_li (ns := salL bs ds) (by
      unfold salL
      rw [← rng_map]
      exact el_lcR (n := (bs.length : Int)) _ (ea_cons (ev_var rfl) ea_nil) ⟨by omega, by omega⟩ (fun _ => rfl) fun j G e hj => ev_min2 (ev_is (ev_ixT (ev_var rfl) (ex_t e hb4) (ev_var rfl) (atI_mapI (by omega) (by omega))) (by rw [Int.toNat_natCast])) (ev_is (ev_ixT (ev_var rfl) (ex_t e hd4) (ev_var rfl) (atI_mapI (by omega) (by omega))) (by rw [Int.toNat_natCast]))) rfl) fun v H5 d5 ⟨q9, ns9, e9, h9, hns9⟩ => ?_
    subst e9 hns9
    have hB5 := hB4.mono d5.ex
    have hb5 := ex_t d5.ex hb4
    have hd5 := ex_t d5.ex hd4
    have hB5' : BakAt K Z H5 b bs ds 1 i := hB5.mono wn_ex
    have h9' : SqL K H5 q9 ((salL bs ds).map V.int) := sq_of (wn_ex _ _ h9)
    refine q_asgU (xs := [(salL bs ds).sum, ds.sum - (salL bs ds).sum, bs.sum - (salL bs ds).sum].map V.int) (eu_tup (ea_cons (ev_sumL (ev_var rfl) h9') (ea_cons (ev_op (ev_sumT (ev_var rfl) (ex_t wn_ex hd5)) (ev_sumL (ev_var rfl) h9') rv_I0) (ea_cons (ev_op (ev_sumT (ev_var rfl) (ex_t wn_ex hb5)) (ev_sumL (ev_var rfl) h9') rv_I0) ea_nil))) (by show 3 ≤ 100000; decide)) fun p10 H6 hp10 e6 h10 => ?_
    have hB6 := hB5'.mono e6
    refine q_when (b := false) (et_not (a := true) (et_B (ev_alkNest (ns := [(salL bs ds).sum, ds.sum - (salL bs ds).sum, bs.sum - (salL bs ds).sum]) (by
        rw [← long_life1 gd]
        exact ew_long (ev_var rfl) hB6) (ev_is (ev_set (ev_var rfl) hB6) (congrArg V.int (set_life1 hB6))) (ev_is (ev_meth (ev_var rfl) (hB6.nf _ (by decide)) (ea_cons (ev_var rfl) ea_nil) (spv_Bstock hB6 (by omega))) (congrArg V.int (day_life1 t))) (ev_var rfl) (st_of h10) (show 3 ≤ 1000 by decide)))) (fun hb => nomatch hb) fun _ H7 e7 => ?_
    have hB7 := hB6.mono e7
    have e67 := e6.trans e7
    have hs7 : HS H7 h l := d5.hs.mono e67
    obtain ⟨ds1, ds2⟩ := day_split t bs.length n0
    have r0 : 0 ≤ (t : Int) % (bs.length : Int) := Int.emod_nonneg _ (by omega)
    have r1 : (t : Int) % (bs.length : Int) < (bs.length : Int) := Int.emod_lt_of_pos _ (by omega)
    have sl : (salL bs ds).length = bs.length := by simp [salL]
    refine q_orX (h := h) (l := l) (et_not (a := true) (et_B (ev_call (vs := [.int ((salL bs ds).getD (t % bs.length) 0), .int ((salL bs ds).getD (t % bs.length) 0)]) (ea_cons (ev_is (ev_meth (ev_var rfl) (hB7.nf _ (by decide)) (ea_cons (ev_var rfl) ea_nil) (spv_Bday (j := 0) hB7 (by omega))) (congrArg V.int (sol_life1 t n0)))
        (ea_cons (ev_is (ev_ixL (ev_var rfl) (ex_l e67 h9') (ev_op (ev_var rfl) (ev_var rfl) (rv_I (by show (0 : Int) < (bs.length : Int); omega))) (atI_mapI r0 (by rw [sl]; exact r1))) (by rw [ds2])) ea_nil)) (spv_alike (n := 2) (.inl (.inl ⟨_, rfl, rfl⟩))))))
      (fun G e Q q => ⟨_, rfl, h, l, rfl, hs7.mono e, fun G' d => ⟨true, rfl, q G' ((Dr.of hs7 e).trans d)⟩⟩) fun H8 d8 => ?_
    have w58 := (wn_mono (N := hl h l) e67).trans d8.ex
    have hb8 := ex_t w58 hb5
    have hd8 := ex_t w58 hd5
    -- multiplied
    refine x_asgI (A := fun m => 2 ≤ m ∧ m ≤ 10) d8.hs (xi_op0 (g := fun i j => i + j) (A := fun i => i = 2) (B := fun i => 0 ≤ i ∧ i < 9) (xi_ev ev_c rfl) ((xi_next (A := fun i => i = 9) (fun G => ev_var rfl) (xi_ev ev_c rfl) (fun i e => by omega)).imp fun v q => ⟨q.1, by obtain ⟨i, e, q⟩ := q.2; omega⟩) (fun i j hi hj => by omega)) fun m H9 d9 ⟨m0, m1⟩ => ?_
    have mpos : 0 < m := by omega
    have hb9 := ex_t d9.ex hb8
    have hd9 := ex_t d9.ex hd8
    have gs : Good (bs.map (m * ·)) (ds.map (m * ·)) := good_scale gd (by omega) m1 (fun x hx => by have := hP.bw x hx; omega) (fun x hx => by have := hP.dw x hx; omega)
    refine q_bak1 d9.hs (ea_cons (ev_var rfl) (ea_cons (ev_var rfl) (ea_cons (ev_var rfl) ea_nil))) hb9 hd9 gd hP.l0 hP.l1 fun b1 i1 H10 d10 hB10 => ?_
    have hb10 := ex_t d10.ex hb9
    have hd10 := ex_t d10.ex hd9
    refine x_asg (P := fun u G => ∃ p, u = .ref p ∧ ∃ i, BakAt K Z G p (bs.map (m * ·)) (ds.map (m * ·)) life i) d10.hs (x_bakT (bs := bs.map (m * ·)) (ds := ds.map (m * ·))
        (eu_tupL (el_lcWI (g := (m * ·)) (ew_of (ev_var rfl) hb10) (by omega) (fun _ => rfl) fun n G e => ev_op (ev_var rfl) (ev_var rfl) (rv_I (.inl ⟨by omega, by omega⟩))))
        (eu_tupL (el_lcWI (g := (m * ·)) (ew_of (ev_var rfl) hd10) (by omega) (fun _ => rfl) fun n G e => ev_op (ev_var rfl) (ev_var rfl) (rv_I (.inl ⟨by omega, by omega⟩))))
        (ev_var rfl) gs hP.l0 hP.l1) fun v H11 d11 ⟨b2, e, i2, hB2⟩ => ?_
    subst e
    have hO : BakAt K Z H11 b1 bs ds life i1 := (hB10.mono d11.ex).mono wn_ex
    have hM : BakAt K Z H11 b2 (bs.map (m * ·)) (ds.map (m * ·)) life i2 := hB2.mono wn_ex
    have tl : (totS bs ds (keepL bs life) t).length = 3 := rfl
    refine q_when (b := false) (et_not (a := true) (et_B (ev_callUU (xs := ((totS bs ds (keepL bs life) t).map (m * ·)).map V.int) (ys := ((totS bs ds (keepL bs life) t).map (m * ·)).map V.int) (by
        rw [← tot_scale (by omega) n0]
        exact eu_meth (ev_var rfl) (hM.nf _ (by decide)) (ea_cons (ev_var rfl) ea_nil) (spu_Btot hM (by omega)))
        (eu_tupL (el_lcWI (g := (m * ·)) (EvU.w (eu_meth (ev_var rfl) (hO.nf _ (by decide)) (ea_cons (ev_var rfl) ea_nil) (spu_Btot hO (by omega)))) (by rw [tl]; decide) (fun _ => rfl) fun n G e => ev_op (ev_var rfl) (ev_var rfl) (rv_I (.inl ⟨by omega, by omega⟩))))
        fun p q G e hp hq => spv_alike (n := 2) (alk_ints (.inl ⟨st_of hp, st_of hq⟩) (by rw [List.length_map, tl]; decide))))) (fun hb => nomatch hb) fun _ H12 e12 => ?_
    have hO12 := hO.mono e12
    have hM12 := hM.mono e12
    have shl : (shelfL bs ds life t).length ≤ 29 := by
      unfold shelfL
      rw [List.length_reverse]
      have := newest_len (bs := bs) (life - 1).toNat (t : Int) (dayS bs ds (keepL bs life) t)
      have := hP.l1
      omega
    refine q_when (b := false) (et_not (a := true) (et_B (ev_callPP (ps := (shelfL bs ds life t).map fun p => (p.1, m * p.2)) (qs := (shelfL bs ds life t).map fun p => (p.1, m * p.2)) (by
        rw [← shelf_scale mpos n0]
        exact eps_meth (vs := [.int (t : Int)]) (ev_var rfl) (hM12.nf _ (by decide)) (ea_cons (ev_var rfl) ea_nil) fun _ e _ q _ => ⟨b2, _, _, life, i2, t, rfl, by omega, hM12.mono e, q⟩)
        (eps_lc (g := (m * ·)) (eps_meth (vs := [.int (t : Int)]) (ev_var rfl) (hO12.nf _ (by decide)) (ea_cons (ev_var rfl) ea_nil) fun _ e _ q _ => ⟨b1, bs, ds, life, i1, t, rfl, by omega, hO12.mono e, q⟩) (by omega) (fun x y => wipe2 (j1 := 17) (j2 := 18) (by decide) x y) fun d c G e => eu_tup (ea_cons (ev_var rfl) (ea_cons (ev_op (ev_var rfl) (ev_var rfl) (rv_I (.inl ⟨by omega, by omega⟩))) ea_nil)) (by show 2 ≤ 100000; decide))
        fun p q xs ys G e hp hq hP' hQ => spv_alike (n := 2) (alk_pairs hp hq hP' hQ (by rw [List.length_map]; omega))))) (fun hb => nomatch hb) fun _ H13 e13 => ?_
    have hO13 := hO12.mono e13
    have hM13 := hM12.mono e13
    refine s_when (b := false) (et_test (ev_is (ev_op (ev_is (ev_set (ev_var rfl) hM13) (congrArg V.int (set_scale mpos hO13 hM13))) (ev_set (ev_var rfl) hO13) (rv_ne rfl)) (by simp))) (fun hb => nomatch hb) fun _ H14 e14 => ⟨⟨_, _, _, _, _, _, _, _, _, _, _, _, _, _, _, _, _, _, rfl⟩, d11.hs.mono ((e12.trans e13).trans e14)⟩
end Sw
namespace Sw
open PySem PySem.Spec PyProof.Rows L2 Evl
theorem all_mk {l : PySem.W.OpenLaw} {w : World} {K : PySem.W.Frag} {h : Heap} {mg : Str → Option Value} {fa c_Course c_Bakery f_count_keepable f_sum_repeated f_Course___init__ f_Course_stock_at f_Course_sales_on f_Course_sales_before f_Course_loaves_at f_Course_find_settled f_Course_sum_settled_round f_Course__play_round f_Course__stocks_in f_Course__misses_in f_Course__count_growing f_check_number f_check_amounts f_check_life f_check_bakery f_Bakery___init__ f_Bakery_settled_day pr_Bakery_settled_day f_Bakery_long_run pr_Bakery_long_run f_Bakery_stock f_Bakery_sold f_Bakery_missed f_Bakery_totals f_Bakery_shelf f__law_mix f__law_next f__law_amounts f__law_parts f__law_alike f__law_constant_right f_law : Addr} (X : K.In h) (G : h.Ns mainGlobals mg) (hfa : mg "law" = some (.ref fa))
    {tk_cv_Bakery_MAX_DAYS : Tok}
    {tk_cv_Bakery_MAX_LIFE : Tok}
    {t_MOST_LOAVES : Tok}
    {t_LAST_DAY : Tok}
    {od_count_keepable an_count_keepable : Option Addr} {sl_count_keepable : Array (Option Value)} {oc_count_keepable kV_count_keepable dc_count_keepable pm_count_keepable cd_count_keepable ct_count_keepable : Value}
    {od_sum_repeated an_sum_repeated : Option Addr} {sl_sum_repeated : Array (Option Value)} {oc_sum_repeated kV_sum_repeated dc_sum_repeated pm_sum_repeated cd_sum_repeated ct_sum_repeated : Value}
    {od_Course___init__ an_Course___init__ : Option Addr} {sl_Course___init__ : Array (Option Value)} {oc_Course___init__ kV_Course___init__ dc_Course___init__ pm_Course___init__ cd_Course___init__ ct_Course___init__ : Value}
    {od_Course_stock_at an_Course_stock_at : Option Addr} {sl_Course_stock_at : Array (Option Value)} {oc_Course_stock_at kV_Course_stock_at dc_Course_stock_at pm_Course_stock_at cd_Course_stock_at ct_Course_stock_at : Value}
    {od_Course_sales_on an_Course_sales_on : Option Addr} {sl_Course_sales_on : Array (Option Value)} {oc_Course_sales_on kV_Course_sales_on dc_Course_sales_on pm_Course_sales_on cd_Course_sales_on ct_Course_sales_on : Value}
    {od_Course_sales_before an_Course_sales_before : Option Addr} {sl_Course_sales_before : Array (Option Value)} {oc_Course_sales_before kV_Course_sales_before dc_Course_sales_before pm_Course_sales_before cd_Course_sales_before ct_Course_sales_before : Value}
    {od_Course_loaves_at an_Course_loaves_at : Option Addr} {sl_Course_loaves_at : Array (Option Value)} {oc_Course_loaves_at kV_Course_loaves_at dc_Course_loaves_at pm_Course_loaves_at cd_Course_loaves_at ct_Course_loaves_at : Value}
    {od_Course_find_settled an_Course_find_settled : Option Addr} {sl_Course_find_settled : Array (Option Value)} {oc_Course_find_settled kV_Course_find_settled dc_Course_find_settled pm_Course_find_settled cd_Course_find_settled ct_Course_find_settled : Value}
    {od_Course_sum_settled_round an_Course_sum_settled_round : Option Addr} {sl_Course_sum_settled_round : Array (Option Value)} {oc_Course_sum_settled_round kV_Course_sum_settled_round dc_Course_sum_settled_round pm_Course_sum_settled_round cd_Course_sum_settled_round ct_Course_sum_settled_round : Value}
    {od_Course__play_round an_Course__play_round : Option Addr} {sl_Course__play_round : Array (Option Value)} {oc_Course__play_round kV_Course__play_round dc_Course__play_round pm_Course__play_round cd_Course__play_round ct_Course__play_round : Value}
    {od_Course__stocks_in an_Course__stocks_in : Option Addr} {sl_Course__stocks_in : Array (Option Value)} {oc_Course__stocks_in kV_Course__stocks_in dc_Course__stocks_in pm_Course__stocks_in cd_Course__stocks_in ct_Course__stocks_in : Value}
    {od_Course__misses_in an_Course__misses_in : Option Addr} {sl_Course__misses_in : Array (Option Value)} {oc_Course__misses_in kV_Course__misses_in dc_Course__misses_in pm_Course__misses_in cd_Course__misses_in ct_Course__misses_in : Value}
    {od_Course__count_growing an_Course__count_growing : Option Addr} {sl_Course__count_growing : Array (Option Value)} {oc_Course__count_growing kV_Course__count_growing dc_Course__count_growing pm_Course__count_growing cd_Course__count_growing ct_Course__count_growing : Value}
    {od_check_number an_check_number : Option Addr} {sl_check_number : Array (Option Value)} {oc_check_number kV_check_number dc_check_number pm_check_number cd_check_number ct_check_number : Value}
    {od_check_amounts an_check_amounts : Option Addr} {sl_check_amounts : Array (Option Value)} {oc_check_amounts kV_check_amounts dc_check_amounts pm_check_amounts cd_check_amounts ct_check_amounts : Value}
    {od_check_life an_check_life : Option Addr} {sl_check_life : Array (Option Value)} {oc_check_life kV_check_life dc_check_life pm_check_life cd_check_life ct_check_life : Value}
    {od_check_bakery an_check_bakery : Option Addr} {sl_check_bakery : Array (Option Value)} {oc_check_bakery kV_check_bakery dc_check_bakery pm_check_bakery cd_check_bakery ct_check_bakery : Value}
    {od_Bakery___init__ an_Bakery___init__ : Option Addr} {sl_Bakery___init__ : Array (Option Value)} {oc_Bakery___init__ kV_Bakery___init__ dc_Bakery___init__ pm_Bakery___init__ cd_Bakery___init__ ct_Bakery___init__ : Value}
    {od_Bakery_settled_day an_Bakery_settled_day : Option Addr} {sl_Bakery_settled_day : Array (Option Value)} {oc_Bakery_settled_day kV_Bakery_settled_day dc_Bakery_settled_day pm_Bakery_settled_day cd_Bakery_settled_day ct_Bakery_settled_day : Value}
    {rs_Bakery_settled_day : List Value}
    {od_Bakery_long_run an_Bakery_long_run : Option Addr} {sl_Bakery_long_run : Array (Option Value)} {oc_Bakery_long_run kV_Bakery_long_run dc_Bakery_long_run pm_Bakery_long_run cd_Bakery_long_run ct_Bakery_long_run : Value}
    {rs_Bakery_long_run : List Value}
    {od_Bakery_stock an_Bakery_stock : Option Addr} {sl_Bakery_stock : Array (Option Value)} {oc_Bakery_stock kV_Bakery_stock dc_Bakery_stock pm_Bakery_stock cd_Bakery_stock ct_Bakery_stock : Value}
    {od_Bakery_sold an_Bakery_sold : Option Addr} {sl_Bakery_sold : Array (Option Value)} {oc_Bakery_sold kV_Bakery_sold dc_Bakery_sold pm_Bakery_sold cd_Bakery_sold ct_Bakery_sold : Value}
    {od_Bakery_missed an_Bakery_missed : Option Addr} {sl_Bakery_missed : Array (Option Value)} {oc_Bakery_missed kV_Bakery_missed dc_Bakery_missed pm_Bakery_missed cd_Bakery_missed ct_Bakery_missed : Value}
    {od_Bakery_totals an_Bakery_totals : Option Addr} {sl_Bakery_totals : Array (Option Value)} {oc_Bakery_totals kV_Bakery_totals dc_Bakery_totals pm_Bakery_totals cd_Bakery_totals ct_Bakery_totals : Value}
    {od_Bakery_shelf an_Bakery_shelf : Option Addr} {sl_Bakery_shelf : Array (Option Value)} {oc_Bakery_shelf kV_Bakery_shelf dc_Bakery_shelf pm_Bakery_shelf cd_Bakery_shelf ct_Bakery_shelf : Value}
    {od__law_mix an__law_mix : Option Addr} {sl__law_mix : Array (Option Value)} {oc__law_mix kV__law_mix dc__law_mix pm__law_mix cd__law_mix ct__law_mix : Value}
    {od__law_next an__law_next : Option Addr} {sl__law_next : Array (Option Value)} {oc__law_next kV__law_next dc__law_next pm__law_next cd__law_next ct__law_next : Value}
    {od__law_amounts an__law_amounts : Option Addr} {sl__law_amounts : Array (Option Value)} {oc__law_amounts kV__law_amounts dc__law_amounts pm__law_amounts cd__law_amounts ct__law_amounts : Value}
    {od__law_parts an__law_parts : Option Addr} {sl__law_parts : Array (Option Value)} {oc__law_parts kV__law_parts dc__law_parts pm__law_parts cd__law_parts ct__law_parts : Value}
    {od__law_alike an__law_alike : Option Addr} {sl__law_alike : Array (Option Value)} {oc__law_alike kV__law_alike dc__law_alike pm__law_alike cd__law_alike ct__law_alike : Value}
    {od__law_constant_right an__law_constant_right : Option Addr} {sl__law_constant_right : Array (Option Value)} {oc__law_constant_right kV__law_constant_right dc__law_constant_right pm__law_constant_right cd__law_constant_right ct__law_constant_right : Value}
    {od_law an_law : Option Addr} {sl_law : Array (Option Value)} {oc_law kV_law dc_law pm_law cd_law ct_law : Value}
    (g_Course : PySem.W.nsIn K mainGlobals "Course" = some (some (.ref c_Course)))
    (pg_Course : PySem.W.plainGet K c_Course Str.empty = true)
    (hd_Course : PySem.W.hasDictIn K c_Course = true)
    (po_Course : PySem.W.plainOver K c_Course = true)
    (sa_Course : PySem.W.findIn K (.ref c_Course) "__setattr__" = some (some (.builtin "object.__setattr__")))
    (mk_Course : PySem.W.makesIn K c_Course = true)
    (kc_Course : PySem.W.keepIn K (.ref c_Course) = true)
    (g_Bakery : PySem.W.nsIn K mainGlobals "Bakery" = some (some (.ref c_Bakery)))
    (pg_Bakery : PySem.W.plainGet K c_Bakery Str.empty = true)
    (hd_Bakery : PySem.W.hasDictIn K c_Bakery = true)
    (po_Bakery : PySem.W.plainOver K c_Bakery = true)
    (sa_Bakery : PySem.W.findIn K (.ref c_Bakery) "__setattr__" = some (some (.builtin "object.__setattr__")))
    (mk_Bakery : PySem.W.makesIn K c_Bakery = true)
    (kc_Bakery : PySem.W.keepIn K (.ref c_Bakery) = true)
    (na_Course__bakes : PySem.W.findIn K (.ref c_Course) "_bakes" = some none)
    (na_Course__demands : PySem.W.findIn K (.ref c_Course) "_demands" = some none)
    (na_Course__keepable : PySem.W.findIn K (.ref c_Course) "_keepable" = some none)
    (na_Course__gain : PySem.W.findIn K (.ref c_Course) "_gain" = some none)
    (na_Course__first_end : PySem.W.findIn K (.ref c_Course) "_first_end" = some none)
    (na_Course__full_end : PySem.W.findIn K (.ref c_Course) "_full_end" = some none)
    (na_Course__first_misses : PySem.W.findIn K (.ref c_Course) "_first_misses" = some none)
    (na_Course__later_misses : PySem.W.findIn K (.ref c_Course) "_later_misses" = some none)
    (na_Bakery__bakes : PySem.W.findIn K (.ref c_Bakery) "_bakes" = some none)
    (na_Bakery__demands : PySem.W.findIn K (.ref c_Bakery) "_demands" = some none)
    (na_Bakery__life : PySem.W.findIn K (.ref c_Bakery) "_life" = some none)
    (na_Bakery_course : PySem.W.findIn K (.ref c_Bakery) "course" = some none)
    (na_Bakery__settled_day : PySem.W.findIn K (.ref c_Bakery) "_settled_day" = some none)
    (na_Bakery__long_run : PySem.W.findIn K (.ref c_Bakery) "_long_run" = some none)
    (rd_Bakery : PySem.W.readsIn K c_Bakery (.type "type") = true)
    (gt_Bakery : PySem.W.specialIn K (.ref c_Bakery) "__getattribute__" = some (some (.builtin "type.__getattribute__")))
    (cv_Bakery_MAX_DAYS : PySem.W.findCls K (.ref c_Bakery) (.type "type") "MAX_DAYS" = some (.val (.int 24 tk_cv_Bakery_MAX_DAYS)))
    (cv_Bakery_MAX_LIFE : PySem.W.findCls K (.ref c_Bakery) (.type "type") "MAX_LIFE" = some (.val (.int 30 tk_cv_Bakery_MAX_LIFE)))
    (g_MOST_LOAVES : PySem.W.nsIn K mainGlobals "MOST_LOAVES" = some (some (.int 1000000000 t_MOST_LOAVES)))
    (g_LAST_DAY : PySem.W.nsIn K mainGlobals "LAST_DAY" = some (some (.int 1000000000000000000 t_LAST_DAY)))
    (b_bool : PySem.W.nsIn K mainGlobals "bool" = some none)
    (b_dict : PySem.W.nsIn K mainGlobals "dict" = some none)
    (b_divmod : PySem.W.nsIn K mainGlobals "divmod" = some none)
    (b_enumerate : PySem.W.nsIn K mainGlobals "enumerate" = some none)
    (b_int : PySem.W.nsIn K mainGlobals "int" = some none)
    (b_isinstance : PySem.W.nsIn K mainGlobals "isinstance" = some none)
    (b_len : PySem.W.nsIn K mainGlobals "len" = some none)
    (b_list : PySem.W.nsIn K mainGlobals "list" = some none)
    (b_max : PySem.W.nsIn K mainGlobals "max" = some none)
    (b_min : PySem.W.nsIn K mainGlobals "min" = some none)
    (b_range : PySem.W.nsIn K mainGlobals "range" = some none)
    (b_str : PySem.W.nsIn K mainGlobals "str" = some none)
    (b_sum : PySem.W.nsIn K mainGlobals "sum" = some none)
    (b_tuple : PySem.W.nsIn K mainGlobals "tuple" = some none)
    (b_zip : PySem.W.nsIn K mainGlobals "zip" = some none)
    (a_count_keepable : PySem.W.nsIn K mainGlobals "count_keepable" = some (some (.ref f_count_keepable)))
    (l_count_keepable : K.lookup f_count_keepable = some ⟨oc_count_keepable, od_count_keepable, .func (PySem.W.fnOf "count_keepable" "count_keepable" (defArgs s_count_keepable) (defBody s_count_keepable) (defScope s_count_keepable) .none kV_count_keepable dc_count_keepable pm_count_keepable an_count_keepable cd_count_keepable ct_count_keepable), sl_count_keepable⟩)
    (q_count_keepable : PySem.W.codeIn K cd_count_keepable "count_keepable" = true)
    (k_count_keepable : PySem.W.keepIn K (.ref f_count_keepable) = true)
    (a_sum_repeated : PySem.W.nsIn K mainGlobals "sum_repeated" = some (some (.ref f_sum_repeated)))
    (l_sum_repeated : K.lookup f_sum_repeated = some ⟨oc_sum_repeated, od_sum_repeated, .func (PySem.W.fnOf "sum_repeated" "sum_repeated" (defArgs s_sum_repeated) (defBody s_sum_repeated) (defScope s_sum_repeated) .none kV_sum_repeated dc_sum_repeated pm_sum_repeated an_sum_repeated cd_sum_repeated ct_sum_repeated), sl_sum_repeated⟩)
    (q_sum_repeated : PySem.W.codeIn K cd_sum_repeated "sum_repeated" = true)
    (k_sum_repeated : PySem.W.keepIn K (.ref f_sum_repeated) = true)
    (a_Course___init__ : PySem.W.findIn K (.ref c_Course) "__init__" = some (some (.ref f_Course___init__)))
    (i_Course___init__ : PySem.W.isFn K (.ref f_Course___init__) = true)
    (l_Course___init__ : K.lookup f_Course___init__ = some ⟨oc_Course___init__, od_Course___init__, .func (PySem.W.fnOf "__init__" "Course.__init__" (defArgs s_Course___init__) (defBody s_Course___init__) (defScope s_Course___init__) .none kV_Course___init__ dc_Course___init__ pm_Course___init__ an_Course___init__ cd_Course___init__ ct_Course___init__), sl_Course___init__⟩)
    (q_Course___init__ : PySem.W.codeIn K cd_Course___init__ "Course.__init__" = true)
    (k_Course___init__ : PySem.W.keepIn K (.ref f_Course___init__) = true)
    (a_Course_stock_at : PySem.W.findIn K (.ref c_Course) "stock_at" = some (some (.ref f_Course_stock_at)))
    (i_Course_stock_at : PySem.W.isFn K (.ref f_Course_stock_at) = true)
    (l_Course_stock_at : K.lookup f_Course_stock_at = some ⟨oc_Course_stock_at, od_Course_stock_at, .func (PySem.W.fnOf "stock_at" "Course.stock_at" (defArgs s_Course_stock_at) (defBody s_Course_stock_at) (defScope s_Course_stock_at) .none kV_Course_stock_at dc_Course_stock_at pm_Course_stock_at an_Course_stock_at cd_Course_stock_at ct_Course_stock_at), sl_Course_stock_at⟩)
    (q_Course_stock_at : PySem.W.codeIn K cd_Course_stock_at "Course.stock_at" = true)
    (k_Course_stock_at : PySem.W.keepIn K (.ref f_Course_stock_at) = true)
    (a_Course_sales_on : PySem.W.findIn K (.ref c_Course) "sales_on" = some (some (.ref f_Course_sales_on)))
    (i_Course_sales_on : PySem.W.isFn K (.ref f_Course_sales_on) = true)
    (l_Course_sales_on : K.lookup f_Course_sales_on = some ⟨oc_Course_sales_on, od_Course_sales_on, .func (PySem.W.fnOf "sales_on" "Course.sales_on" (defArgs s_Course_sales_on) (defBody s_Course_sales_on) (defScope s_Course_sales_on) .none kV_Course_sales_on dc_Course_sales_on pm_Course_sales_on an_Course_sales_on cd_Course_sales_on ct_Course_sales_on), sl_Course_sales_on⟩)
    (q_Course_sales_on : PySem.W.codeIn K cd_Course_sales_on "Course.sales_on" = true)
    (k_Course_sales_on : PySem.W.keepIn K (.ref f_Course_sales_on) = true)
    (a_Course_sales_before : PySem.W.findIn K (.ref c_Course) "sales_before" = some (some (.ref f_Course_sales_before)))
    (i_Course_sales_before : PySem.W.isFn K (.ref f_Course_sales_before) = true)
    (l_Course_sales_before : K.lookup f_Course_sales_before = some ⟨oc_Course_sales_before, od_Course_sales_before, .func (PySem.W.fnOf "sales_before" "Course.sales_before" (defArgs s_Course_sales_before) (defBody s_Course_sales_before) (defScope s_Course_sales_before) .none kV_Course_sales_before dc_Course_sales_before pm_Course_sales_before an_Course_sales_before cd_Course_sales_before ct_Course_sales_before), sl_Course_sales_before⟩)
    (q_Course_sales_before : PySem.W.codeIn K cd_Course_sales_before "Course.sales_before" = true)
    (k_Course_sales_before : PySem.W.keepIn K (.ref f_Course_sales_before) = true)
    (a_Course_loaves_at : PySem.W.findIn K (.ref c_Course) "loaves_at" = some (some (.ref f_Course_loaves_at)))
    (i_Course_loaves_at : PySem.W.isFn K (.ref f_Course_loaves_at) = true)
    (l_Course_loaves_at : K.lookup f_Course_loaves_at = some ⟨oc_Course_loaves_at, od_Course_loaves_at, .func (PySem.W.fnOf "loaves_at" "Course.loaves_at" (defArgs s_Course_loaves_at) (defBody s_Course_loaves_at) (defScope s_Course_loaves_at) .none kV_Course_loaves_at dc_Course_loaves_at pm_Course_loaves_at an_Course_loaves_at cd_Course_loaves_at ct_Course_loaves_at), sl_Course_loaves_at⟩)
    (q_Course_loaves_at : PySem.W.codeIn K cd_Course_loaves_at "Course.loaves_at" = true)
    (k_Course_loaves_at : PySem.W.keepIn K (.ref f_Course_loaves_at) = true)
    (a_Course_find_settled : PySem.W.findIn K (.ref c_Course) "find_settled" = some (some (.ref f_Course_find_settled)))
    (i_Course_find_settled : PySem.W.isFn K (.ref f_Course_find_settled) = true)
    (l_Course_find_settled : K.lookup f_Course_find_settled = some ⟨oc_Course_find_settled, od_Course_find_settled, .func (PySem.W.fnOf "find_settled" "Course.find_settled" (defArgs s_Course_find_settled) (defBody s_Course_find_settled) (defScope s_Course_find_settled) .none kV_Course_find_settled dc_Course_find_settled pm_Course_find_settled an_Course_find_settled cd_Course_find_settled ct_Course_find_settled), sl_Course_find_settled⟩)
    (q_Course_find_settled : PySem.W.codeIn K cd_Course_find_settled "Course.find_settled" = true)
    (k_Course_find_settled : PySem.W.keepIn K (.ref f_Course_find_settled) = true)
    (a_Course_sum_settled_round : PySem.W.findIn K (.ref c_Course) "sum_settled_round" = some (some (.ref f_Course_sum_settled_round)))
    (i_Course_sum_settled_round : PySem.W.isFn K (.ref f_Course_sum_settled_round) = true)
    (l_Course_sum_settled_round : K.lookup f_Course_sum_settled_round = some ⟨oc_Course_sum_settled_round, od_Course_sum_settled_round, .func (PySem.W.fnOf "sum_settled_round" "Course.sum_settled_round" (defArgs s_Course_sum_settled_round) (defBody s_Course_sum_settled_round) (defScope s_Course_sum_settled_round) .none kV_Course_sum_settled_round dc_Course_sum_settled_round pm_Course_sum_settled_round an_Course_sum_settled_round cd_Course_sum_settled_round ct_Course_sum_settled_round), sl_Course_sum_settled_round⟩)
    (q_Course_sum_settled_round : PySem.W.codeIn K cd_Course_sum_settled_round "Course.sum_settled_round" = true)
    (k_Course_sum_settled_round : PySem.W.keepIn K (.ref f_Course_sum_settled_round) = true)
    (a_Course__play_round : PySem.W.findIn K (.ref c_Course) "_play_round" = some (some (.ref f_Course__play_round)))
    (i_Course__play_round : PySem.W.isFn K (.ref f_Course__play_round) = true)
    (l_Course__play_round : K.lookup f_Course__play_round = some ⟨oc_Course__play_round, od_Course__play_round, .func (PySem.W.fnOf "_play_round" "Course._play_round" (defArgs s_Course__play_round) (defBody s_Course__play_round) (defScope s_Course__play_round) .none kV_Course__play_round dc_Course__play_round pm_Course__play_round an_Course__play_round cd_Course__play_round ct_Course__play_round), sl_Course__play_round⟩)
    (q_Course__play_round : PySem.W.codeIn K cd_Course__play_round "Course._play_round" = true)
    (k_Course__play_round : PySem.W.keepIn K (.ref f_Course__play_round) = true)
    (a_Course__stocks_in : PySem.W.findIn K (.ref c_Course) "_stocks_in" = some (some (.ref f_Course__stocks_in)))
    (i_Course__stocks_in : PySem.W.isFn K (.ref f_Course__stocks_in) = true)
    (l_Course__stocks_in : K.lookup f_Course__stocks_in = some ⟨oc_Course__stocks_in, od_Course__stocks_in, .func (PySem.W.fnOf "_stocks_in" "Course._stocks_in" (defArgs s_Course__stocks_in) (defBody s_Course__stocks_in) (defScope s_Course__stocks_in) .none kV_Course__stocks_in dc_Course__stocks_in pm_Course__stocks_in an_Course__stocks_in cd_Course__stocks_in ct_Course__stocks_in), sl_Course__stocks_in⟩)
    (q_Course__stocks_in : PySem.W.codeIn K cd_Course__stocks_in "Course._stocks_in" = true)
    (k_Course__stocks_in : PySem.W.keepIn K (.ref f_Course__stocks_in) = true)
    (a_Course__misses_in : PySem.W.findIn K (.ref c_Course) "_misses_in" = some (some (.ref f_Course__misses_in)))
    (i_Course__misses_in : PySem.W.isFn K (.ref f_Course__misses_in) = true)
    (l_Course__misses_in : K.lookup f_Course__misses_in = some ⟨oc_Course__misses_in, od_Course__misses_in, .func (PySem.W.fnOf "_misses_in" "Course._misses_in" (defArgs s_Course__misses_in) (defBody s_Course__misses_in) (defScope s_Course__misses_in) .none kV_Course__misses_in dc_Course__misses_in pm_Course__misses_in an_Course__misses_in cd_Course__misses_in ct_Course__misses_in), sl_Course__misses_in⟩)
    (q_Course__misses_in : PySem.W.codeIn K cd_Course__misses_in "Course._misses_in" = true)
    (k_Course__misses_in : PySem.W.keepIn K (.ref f_Course__misses_in) = true)
    (a_Course__count_growing : PySem.W.findIn K (.ref c_Course) "_count_growing" = some (some (.ref f_Course__count_growing)))
    (i_Course__count_growing : PySem.W.isFn K (.ref f_Course__count_growing) = true)
    (l_Course__count_growing : K.lookup f_Course__count_growing = some ⟨oc_Course__count_growing, od_Course__count_growing, .func (PySem.W.fnOf "_count_growing" "Course._count_growing" (defArgs s_Course__count_growing) (defBody s_Course__count_growing) (defScope s_Course__count_growing) .none kV_Course__count_growing dc_Course__count_growing pm_Course__count_growing an_Course__count_growing cd_Course__count_growing ct_Course__count_growing), sl_Course__count_growing⟩)
    (q_Course__count_growing : PySem.W.codeIn K cd_Course__count_growing "Course._count_growing" = true)
    (k_Course__count_growing : PySem.W.keepIn K (.ref f_Course__count_growing) = true)
    (a_check_number : PySem.W.nsIn K mainGlobals "check_number" = some (some (.ref f_check_number)))
    (l_check_number : K.lookup f_check_number = some ⟨oc_check_number, od_check_number, .func (PySem.W.fnOf "check_number" "check_number" (defArgs s_check_number) (defBody s_check_number) (defScope s_check_number) .none kV_check_number dc_check_number pm_check_number an_check_number cd_check_number ct_check_number), sl_check_number⟩)
    (q_check_number : PySem.W.codeIn K cd_check_number "check_number" = true)
    (k_check_number : PySem.W.keepIn K (.ref f_check_number) = true)
    (a_check_amounts : PySem.W.nsIn K mainGlobals "check_amounts" = some (some (.ref f_check_amounts)))
    (l_check_amounts : K.lookup f_check_amounts = some ⟨oc_check_amounts, od_check_amounts, .func (PySem.W.fnOf "check_amounts" "check_amounts" (defArgs s_check_amounts) (defBody s_check_amounts) (defScope s_check_amounts) .none kV_check_amounts dc_check_amounts pm_check_amounts an_check_amounts cd_check_amounts ct_check_amounts), sl_check_amounts⟩)
    (q_check_amounts : PySem.W.codeIn K cd_check_amounts "check_amounts" = true)
    (k_check_amounts : PySem.W.keepIn K (.ref f_check_amounts) = true)
    (a_check_life : PySem.W.nsIn K mainGlobals "check_life" = some (some (.ref f_check_life)))
    (l_check_life : K.lookup f_check_life = some ⟨oc_check_life, od_check_life, .func (PySem.W.fnOf "check_life" "check_life" (defArgs s_check_life) (defBody s_check_life) (defScope s_check_life) .none kV_check_life dc_check_life pm_check_life an_check_life cd_check_life ct_check_life), sl_check_life⟩)
    (q_check_life : PySem.W.codeIn K cd_check_life "check_life" = true)
    (k_check_life : PySem.W.keepIn K (.ref f_check_life) = true)
    (a_check_bakery : PySem.W.nsIn K mainGlobals "check_bakery" = some (some (.ref f_check_bakery)))
    (l_check_bakery : K.lookup f_check_bakery = some ⟨oc_check_bakery, od_check_bakery, .func (PySem.W.fnOf "check_bakery" "check_bakery" (defArgs s_check_bakery) (defBody s_check_bakery) (defScope s_check_bakery) .none kV_check_bakery dc_check_bakery pm_check_bakery an_check_bakery cd_check_bakery ct_check_bakery), sl_check_bakery⟩)
    (q_check_bakery : PySem.W.codeIn K cd_check_bakery "check_bakery" = true)
    (k_check_bakery : PySem.W.keepIn K (.ref f_check_bakery) = true)
    (a_Bakery___init__ : PySem.W.findIn K (.ref c_Bakery) "__init__" = some (some (.ref f_Bakery___init__)))
    (i_Bakery___init__ : PySem.W.isFn K (.ref f_Bakery___init__) = true)
    (l_Bakery___init__ : K.lookup f_Bakery___init__ = some ⟨oc_Bakery___init__, od_Bakery___init__, .func (PySem.W.fnOf "__init__" "Bakery.__init__" (defArgs s_Bakery___init__) (defBody s_Bakery___init__) (defScope s_Bakery___init__) .none kV_Bakery___init__ dc_Bakery___init__ pm_Bakery___init__ an_Bakery___init__ cd_Bakery___init__ ct_Bakery___init__), sl_Bakery___init__⟩)
    (q_Bakery___init__ : PySem.W.codeIn K cd_Bakery___init__ "Bakery.__init__" = true)
    (k_Bakery___init__ : PySem.W.keepIn K (.ref f_Bakery___init__) = true)
    (a_Bakery_settled_day : PySem.W.findIn K (.ref c_Bakery) "settled_day" = some (some (.ref pr_Bakery_settled_day)))
    (pg_Bakery_settled_day : PySem.W.specialIn K (.ref pr_Bakery_settled_day) "__get__" = some (some (.builtin "property.__get__")))
    (pt_Bakery_settled_day : PySem.W.takesIn K (.ref pr_Bakery_settled_day) = some true)
    (pr1_Bakery_settled_day : PySem.W.recIn K pr_Bakery_settled_day "property" = some (.ref f_Bakery_settled_day :: rs_Bakery_settled_day))
    (l_Bakery_settled_day : K.lookup f_Bakery_settled_day = some ⟨oc_Bakery_settled_day, od_Bakery_settled_day, .func (PySem.W.fnOf "settled_day" "Bakery.settled_day" (defArgs s_Bakery_settled_day) (defBody s_Bakery_settled_day) (defScope s_Bakery_settled_day) .none kV_Bakery_settled_day dc_Bakery_settled_day pm_Bakery_settled_day an_Bakery_settled_day cd_Bakery_settled_day ct_Bakery_settled_day), sl_Bakery_settled_day⟩)
    (q_Bakery_settled_day : PySem.W.codeIn K cd_Bakery_settled_day "Bakery.settled_day" = true)
    (k_Bakery_settled_day : PySem.W.keepIn K (.ref f_Bakery_settled_day) = true)
    (a_Bakery_long_run : PySem.W.findIn K (.ref c_Bakery) "long_run" = some (some (.ref pr_Bakery_long_run)))
    (pg_Bakery_long_run : PySem.W.specialIn K (.ref pr_Bakery_long_run) "__get__" = some (some (.builtin "property.__get__")))
    (pt_Bakery_long_run : PySem.W.takesIn K (.ref pr_Bakery_long_run) = some true)
    (pr1_Bakery_long_run : PySem.W.recIn K pr_Bakery_long_run "property" = some (.ref f_Bakery_long_run :: rs_Bakery_long_run))
    (l_Bakery_long_run : K.lookup f_Bakery_long_run = some ⟨oc_Bakery_long_run, od_Bakery_long_run, .func (PySem.W.fnOf "long_run" "Bakery.long_run" (defArgs s_Bakery_long_run) (defBody s_Bakery_long_run) (defScope s_Bakery_long_run) .none kV_Bakery_long_run dc_Bakery_long_run pm_Bakery_long_run an_Bakery_long_run cd_Bakery_long_run ct_Bakery_long_run), sl_Bakery_long_run⟩)
    (q_Bakery_long_run : PySem.W.codeIn K cd_Bakery_long_run "Bakery.long_run" = true)
    (k_Bakery_long_run : PySem.W.keepIn K (.ref f_Bakery_long_run) = true)
    (a_Bakery_stock : PySem.W.findIn K (.ref c_Bakery) "stock" = some (some (.ref f_Bakery_stock)))
    (i_Bakery_stock : PySem.W.isFn K (.ref f_Bakery_stock) = true)
    (l_Bakery_stock : K.lookup f_Bakery_stock = some ⟨oc_Bakery_stock, od_Bakery_stock, .func (PySem.W.fnOf "stock" "Bakery.stock" (defArgs s_Bakery_stock) (defBody s_Bakery_stock) (defScope s_Bakery_stock) .none kV_Bakery_stock dc_Bakery_stock pm_Bakery_stock an_Bakery_stock cd_Bakery_stock ct_Bakery_stock), sl_Bakery_stock⟩)
    (q_Bakery_stock : PySem.W.codeIn K cd_Bakery_stock "Bakery.stock" = true)
    (k_Bakery_stock : PySem.W.keepIn K (.ref f_Bakery_stock) = true)
    (a_Bakery_sold : PySem.W.findIn K (.ref c_Bakery) "sold" = some (some (.ref f_Bakery_sold)))
    (i_Bakery_sold : PySem.W.isFn K (.ref f_Bakery_sold) = true)
    (l_Bakery_sold : K.lookup f_Bakery_sold = some ⟨oc_Bakery_sold, od_Bakery_sold, .func (PySem.W.fnOf "sold" "Bakery.sold" (defArgs s_Bakery_sold) (defBody s_Bakery_sold) (defScope s_Bakery_sold) .none kV_Bakery_sold dc_Bakery_sold pm_Bakery_sold an_Bakery_sold cd_Bakery_sold ct_Bakery_sold), sl_Bakery_sold⟩)
    (q_Bakery_sold : PySem.W.codeIn K cd_Bakery_sold "Bakery.sold" = true)
    (k_Bakery_sold : PySem.W.keepIn K (.ref f_Bakery_sold) = true)
    (a_Bakery_missed : PySem.W.findIn K (.ref c_Bakery) "missed" = some (some (.ref f_Bakery_missed)))
    (i_Bakery_missed : PySem.W.isFn K (.ref f_Bakery_missed) = true)
    (l_Bakery_missed : K.lookup f_Bakery_missed = some ⟨oc_Bakery_missed, od_Bakery_missed, .func (PySem.W.fnOf "missed" "Bakery.missed" (defArgs s_Bakery_missed) (defBody s_Bakery_missed) (defScope s_Bakery_missed) .none kV_Bakery_missed dc_Bakery_missed pm_Bakery_missed an_Bakery_missed cd_Bakery_missed ct_Bakery_missed), sl_Bakery_missed⟩)
    (q_Bakery_missed : PySem.W.codeIn K cd_Bakery_missed "Bakery.missed" = true)
    (k_Bakery_missed : PySem.W.keepIn K (.ref f_Bakery_missed) = true)
    (a_Bakery_totals : PySem.W.findIn K (.ref c_Bakery) "totals" = some (some (.ref f_Bakery_totals)))
    (i_Bakery_totals : PySem.W.isFn K (.ref f_Bakery_totals) = true)
    (l_Bakery_totals : K.lookup f_Bakery_totals = some ⟨oc_Bakery_totals, od_Bakery_totals, .func (PySem.W.fnOf "totals" "Bakery.totals" (defArgs s_Bakery_totals) (defBody s_Bakery_totals) (defScope s_Bakery_totals) .none kV_Bakery_totals dc_Bakery_totals pm_Bakery_totals an_Bakery_totals cd_Bakery_totals ct_Bakery_totals), sl_Bakery_totals⟩)
    (q_Bakery_totals : PySem.W.codeIn K cd_Bakery_totals "Bakery.totals" = true)
    (k_Bakery_totals : PySem.W.keepIn K (.ref f_Bakery_totals) = true)
    (a_Bakery_shelf : PySem.W.findIn K (.ref c_Bakery) "shelf" = some (some (.ref f_Bakery_shelf)))
    (i_Bakery_shelf : PySem.W.isFn K (.ref f_Bakery_shelf) = true)
    (l_Bakery_shelf : K.lookup f_Bakery_shelf = some ⟨oc_Bakery_shelf, od_Bakery_shelf, .func (PySem.W.fnOf "shelf" "Bakery.shelf" (defArgs s_Bakery_shelf) (defBody s_Bakery_shelf) (defScope s_Bakery_shelf) .none kV_Bakery_shelf dc_Bakery_shelf pm_Bakery_shelf an_Bakery_shelf cd_Bakery_shelf ct_Bakery_shelf), sl_Bakery_shelf⟩)
    (q_Bakery_shelf : PySem.W.codeIn K cd_Bakery_shelf "Bakery.shelf" = true)
    (k_Bakery_shelf : PySem.W.keepIn K (.ref f_Bakery_shelf) = true)
    (a__law_mix : PySem.W.nsIn K mainGlobals "_law_mix" = some (some (.ref f__law_mix)))
    (l__law_mix : K.lookup f__law_mix = some ⟨oc__law_mix, od__law_mix, .func (PySem.W.fnOf "_law_mix" "_law_mix" (defArgs s__law_mix) (defBody s__law_mix) (defScope s__law_mix) .none kV__law_mix dc__law_mix pm__law_mix an__law_mix cd__law_mix ct__law_mix), sl__law_mix⟩)
    (q__law_mix : PySem.W.codeIn K cd__law_mix "_law_mix" = true)
    (k__law_mix : PySem.W.keepIn K (.ref f__law_mix) = true)
    (a__law_next : PySem.W.nsIn K mainGlobals "_law_next" = some (some (.ref f__law_next)))
    (l__law_next : K.lookup f__law_next = some ⟨oc__law_next, od__law_next, .func (PySem.W.fnOf "_law_next" "_law_next" (defArgs s__law_next) (defBody s__law_next) (defScope s__law_next) .none kV__law_next dc__law_next pm__law_next an__law_next cd__law_next ct__law_next), sl__law_next⟩)
    (q__law_next : PySem.W.codeIn K cd__law_next "_law_next" = true)
    (k__law_next : PySem.W.keepIn K (.ref f__law_next) = true)
    (a__law_amounts : PySem.W.nsIn K mainGlobals "_law_amounts" = some (some (.ref f__law_amounts)))
    (l__law_amounts : K.lookup f__law_amounts = some ⟨oc__law_amounts, od__law_amounts, .func (PySem.W.fnOf "_law_amounts" "_law_amounts" (defArgs s__law_amounts) (defBody s__law_amounts) (defScope s__law_amounts) .none kV__law_amounts dc__law_amounts pm__law_amounts an__law_amounts cd__law_amounts ct__law_amounts), sl__law_amounts⟩)
    (q__law_amounts : PySem.W.codeIn K cd__law_amounts "_law_amounts" = true)
    (k__law_amounts : PySem.W.keepIn K (.ref f__law_amounts) = true)
    (a__law_parts : PySem.W.nsIn K mainGlobals "_law_parts" = some (some (.ref f__law_parts)))
    (l__law_parts : K.lookup f__law_parts = some ⟨oc__law_parts, od__law_parts, .func (PySem.W.fnOf "_law_parts" "_law_parts" (defArgs s__law_parts) (defBody s__law_parts) (defScope s__law_parts) .none kV__law_parts dc__law_parts pm__law_parts an__law_parts cd__law_parts ct__law_parts), sl__law_parts⟩)
    (q__law_parts : PySem.W.codeIn K cd__law_parts "_law_parts" = true)
    (k__law_parts : PySem.W.keepIn K (.ref f__law_parts) = true)
    (a__law_alike : PySem.W.nsIn K mainGlobals "_law_alike" = some (some (.ref f__law_alike)))
    (l__law_alike : K.lookup f__law_alike = some ⟨oc__law_alike, od__law_alike, .func (PySem.W.fnOf "_law_alike" "_law_alike" (defArgs s__law_alike) (defBody s__law_alike) (defScope s__law_alike) .none kV__law_alike dc__law_alike pm__law_alike an__law_alike cd__law_alike ct__law_alike), sl__law_alike⟩)
    (q__law_alike : PySem.W.codeIn K cd__law_alike "_law_alike" = true)
    (k__law_alike : PySem.W.keepIn K (.ref f__law_alike) = true)
    (a__law_constant_right : PySem.W.nsIn K mainGlobals "_law_constant_right" = some (some (.ref f__law_constant_right)))
    (l__law_constant_right : K.lookup f__law_constant_right = some ⟨oc__law_constant_right, od__law_constant_right, .func (PySem.W.fnOf "_law_constant_right" "_law_constant_right" (defArgs s__law_constant_right) (defBody s__law_constant_right) (defScope s__law_constant_right) .none kV__law_constant_right dc__law_constant_right pm__law_constant_right an__law_constant_right cd__law_constant_right ct__law_constant_right), sl__law_constant_right⟩)
    (q__law_constant_right : PySem.W.codeIn K cd__law_constant_right "_law_constant_right" = true)
    (k__law_constant_right : PySem.W.keepIn K (.ref f__law_constant_right) = true)
    (a_law : PySem.W.nsIn K mainGlobals "law" = some (some (.ref f_law)))
    (l_law : K.lookup f_law = some ⟨oc_law, od_law, .func (PySem.W.fnOf "law" "law" (defArgs s_law) (defBody s_law) (defScope s_law) .none kV_law dc_law pm_law an_law cd_law ct_law), sl_law⟩)
    (q_law : PySem.W.codeIn K cd_law "law" = true)
    (k_law : PySem.W.keepIn K (.ref f_law) = true) :
    ∃ fd : FuncData, (∀ (s : Shared) (v : Value), BindsTo s fd ⟨[v], []⟩ [("_law_script", v)]) ∧ ∀ base : Heap, K.In base → base.Ns mainGlobals mg → FnOk l.prog w K mg base CX0 9 fa fd ["_law_script"] (sp_law K) := by
  have e := hfa.symm.trans (PySem.W.mg_of X G a_law)
  cases e
  have F_count_keepable := fun_mk (st := s_count_keepable) l_count_keepable q_count_keepable k_count_keepable
  have B_count_keepable := F_count_keepable.binds (ps := p_count_keepable) fun _ _ _ _ _ _ us hl => match us, hl with | [_, _], _ => rfl
  have F_sum_repeated := fun_mk (st := s_sum_repeated) l_sum_repeated q_sum_repeated k_sum_repeated
  have B_sum_repeated := F_sum_repeated.binds (ps := p_sum_repeated) fun _ _ _ _ _ _ us hl => match us, hl with | [_, _], _ => rfl
  have F_Course___init__ := fun_mk (st := s_Course___init__) l_Course___init__ q_Course___init__ k_Course___init__
  have B_Course___init__ := F_Course___init__.binds (ps := p_Course___init__) fun _ _ _ _ _ _ us hl => match us, hl with | [_, _, _, _], _ => rfl
  have F_Course_stock_at := fun_mk (st := s_Course_stock_at) l_Course_stock_at q_Course_stock_at k_Course_stock_at
  have B_Course_stock_at := F_Course_stock_at.binds (ps := p_Course_stock_at) fun _ _ _ _ _ _ us hl => match us, hl with | [_, _], _ => rfl
  have F_Course_sales_on := fun_mk (st := s_Course_sales_on) l_Course_sales_on q_Course_sales_on k_Course_sales_on
  have B_Course_sales_on := F_Course_sales_on.binds (ps := p_Course_sales_on) fun _ _ _ _ _ _ us hl => match us, hl with | [_, _], _ => rfl
  have F_Course_sales_before := fun_mk (st := s_Course_sales_before) l_Course_sales_before q_Course_sales_before k_Course_sales_before
  have B_Course_sales_before := F_Course_sales_before.binds (ps := p_Course_sales_before) fun _ _ _ _ _ _ us hl => match us, hl with | [_, _], _ => rfl
  have F_Course_loaves_at := fun_mk (st := s_Course_loaves_at) l_Course_loaves_at q_Course_loaves_at k_Course_loaves_at
  have B_Course_loaves_at := F_Course_loaves_at.binds (ps := p_Course_loaves_at) fun _ _ _ _ _ _ us hl => match us, hl with | [_, _], _ => rfl
  have F_Course_find_settled := fun_mk (st := s_Course_find_settled) l_Course_find_settled q_Course_find_settled k_Course_find_settled
  have B_Course_find_settled := F_Course_find_settled.binds (ps := p_Course_find_settled) fun _ _ _ _ _ _ us hl => match us, hl with | [_], _ => rfl
  have F_Course_sum_settled_round := fun_mk (st := s_Course_sum_settled_round) l_Course_sum_settled_round q_Course_sum_settled_round k_Course_sum_settled_round
  have B_Course_sum_settled_round := F_Course_sum_settled_round.binds (ps := p_Course_sum_settled_round) fun _ _ _ _ _ _ us hl => match us, hl with | [_], _ => rfl
  have F_Course__play_round := fun_mk (st := s_Course__play_round) l_Course__play_round q_Course__play_round k_Course__play_round
  have B_Course__play_round := F_Course__play_round.binds (ps := p_Course__play_round) fun _ _ _ _ _ _ us hl => match us, hl with | [_, _], _ => rfl
  have F_Course__stocks_in := fun_mk (st := s_Course__stocks_in) l_Course__stocks_in q_Course__stocks_in k_Course__stocks_in
  have B_Course__stocks_in := F_Course__stocks_in.binds (ps := p_Course__stocks_in) fun _ _ _ _ _ _ us hl => match us, hl with | [_, _], _ => rfl
  have F_Course__misses_in := fun_mk (st := s_Course__misses_in) l_Course__misses_in q_Course__misses_in k_Course__misses_in
  have B_Course__misses_in := F_Course__misses_in.binds (ps := p_Course__misses_in) fun _ _ _ _ _ _ us hl => match us, hl with | [_, _], _ => rfl
  have F_Course__count_growing := fun_mk (st := s_Course__count_growing) l_Course__count_growing q_Course__count_growing k_Course__count_growing
  have B_Course__count_growing := F_Course__count_growing.binds (ps := p_Course__count_growing) fun _ _ _ _ _ _ us hl => match us, hl with | [_], _ => rfl
  have F_check_number := fun_mk (st := s_check_number) l_check_number q_check_number k_check_number
  have B_check_number := F_check_number.binds (ps := p_check_number) fun _ _ _ _ _ _ us hl => match us, hl with | [_, _, _], _ => rfl
  have F_check_amounts := fun_mk (st := s_check_amounts) l_check_amounts q_check_amounts k_check_amounts
  have B_check_amounts := F_check_amounts.binds (ps := p_check_amounts) fun _ _ _ _ _ _ us hl => match us, hl with | [_, _], _ => rfl
  have F_check_life := fun_mk (st := s_check_life) l_check_life q_check_life k_check_life
  have B_check_life := F_check_life.binds (ps := p_check_life) fun _ _ _ _ _ _ us hl => match us, hl with | [_], _ => rfl
  have F_check_bakery := fun_mk (st := s_check_bakery) l_check_bakery q_check_bakery k_check_bakery
  have B_check_bakery := F_check_bakery.binds (ps := p_check_bakery) fun _ _ _ _ _ _ us hl => match us, hl with | [_, _, _], _ => rfl
  have F_Bakery___init__ := fun_mk (st := s_Bakery___init__) l_Bakery___init__ q_Bakery___init__ k_Bakery___init__
  have B_Bakery___init__ := F_Bakery___init__.binds (ps := p_Bakery___init__) fun _ _ _ _ _ _ us hl => match us, hl with | [_, _, _, _], _ => rfl
  have F_Bakery_settled_day := fun_mk (st := s_Bakery_settled_day) l_Bakery_settled_day q_Bakery_settled_day k_Bakery_settled_day
  have B_Bakery_settled_day := F_Bakery_settled_day.binds (ps := p_Bakery_settled_day) fun _ _ _ _ _ _ us hl => match us, hl with | [_], _ => rfl
  have F_Bakery_long_run := fun_mk (st := s_Bakery_long_run) l_Bakery_long_run q_Bakery_long_run k_Bakery_long_run
  have B_Bakery_long_run := F_Bakery_long_run.binds (ps := p_Bakery_long_run) fun _ _ _ _ _ _ us hl => match us, hl with | [_], _ => rfl
  have F_Bakery_stock := fun_mk (st := s_Bakery_stock) l_Bakery_stock q_Bakery_stock k_Bakery_stock
  have B_Bakery_stock := F_Bakery_stock.binds (ps := p_Bakery_stock) fun _ _ _ _ _ _ us hl => match us, hl with | [_, _], _ => rfl
  have F_Bakery_sold := fun_mk (st := s_Bakery_sold) l_Bakery_sold q_Bakery_sold k_Bakery_sold
  have B_Bakery_sold := F_Bakery_sold.binds (ps := p_Bakery_sold) fun _ _ _ _ _ _ us hl => match us, hl with | [_, _], _ => rfl
  have F_Bakery_missed := fun_mk (st := s_Bakery_missed) l_Bakery_missed q_Bakery_missed k_Bakery_missed
  have B_Bakery_missed := F_Bakery_missed.binds (ps := p_Bakery_missed) fun _ _ _ _ _ _ us hl => match us, hl with | [_, _], _ => rfl
  have F_Bakery_totals := fun_mk (st := s_Bakery_totals) l_Bakery_totals q_Bakery_totals k_Bakery_totals
  have B_Bakery_totals := F_Bakery_totals.binds (ps := p_Bakery_totals) fun _ _ _ _ _ _ us hl => match us, hl with | [_, _], _ => rfl
  have F_Bakery_shelf := fun_mk (st := s_Bakery_shelf) l_Bakery_shelf q_Bakery_shelf k_Bakery_shelf
  have B_Bakery_shelf := F_Bakery_shelf.binds (ps := p_Bakery_shelf) fun _ _ _ _ _ _ us hl => match us, hl with | [_, _], _ => rfl
  have F__law_mix := fun_mk (st := s__law_mix) l__law_mix q__law_mix k__law_mix
  have B__law_mix := F__law_mix.binds (ps := p__law_mix) fun _ _ _ _ _ _ us hl => match us, hl with | [_, _], _ => rfl
  have F__law_next := fun_mk (st := s__law_next) l__law_next q__law_next k__law_next
  have B__law_next := F__law_next.binds (ps := p__law_next) fun _ _ _ _ _ _ us hl => match us, hl with | [_, _], _ => rfl
  have F__law_amounts := fun_mk (st := s__law_amounts) l__law_amounts q__law_amounts k__law_amounts
  have B__law_amounts := F__law_amounts.binds (ps := p__law_amounts) fun _ _ _ _ _ _ us hl => match us, hl with | [_, _, _], _ => rfl
  have F__law_parts := fun_mk (st := s__law_parts) l__law_parts q__law_parts k__law_parts
  have B__law_parts := F__law_parts.binds (ps := p__law_parts) fun _ _ _ _ _ _ us hl => match us, hl with | [_, _, _], _ => rfl
  have F__law_alike := fun_mk (st := s__law_alike) l__law_alike q__law_alike k__law_alike
  have B__law_alike := F__law_alike.binds (ps := p__law_alike) fun _ _ _ _ _ _ us hl => match us, hl with | [_, _], _ => rfl
  have F__law_constant_right := fun_mk (st := s__law_constant_right) l__law_constant_right q__law_constant_right k__law_constant_right
  have B__law_constant_right := F__law_constant_right.binds (ps := p__law_constant_right) fun _ _ _ _ _ _ us hl => match us, hl with | [_], _ => rfl
  have F_law := fun_mk (st := s_law) l_law q_law k_law
  have B_law := F_law.binds (ps := p_law) fun _ _ _ _ _ _ us hl => match us, hl with | [_], _ => rfl
  have T : Txt K mg { c_Course := c_Course, mc_Course := .none, c_Bakery := c_Bakery, mc_Bakery := .type "type", t_MOST_LOAVES := t_MOST_LOAVES, t_LAST_DAY := t_LAST_DAY, f_count_keepable := f_count_keepable, d_count_keepable := PySem.W.fnOf "count_keepable" "count_keepable" (defArgs s_count_keepable) (defBody s_count_keepable) (defScope s_count_keepable) .none kV_count_keepable dc_count_keepable pm_count_keepable an_count_keepable cd_count_keepable ct_count_keepable, f_sum_repeated := f_sum_repeated, d_sum_repeated := PySem.W.fnOf "sum_repeated" "sum_repeated" (defArgs s_sum_repeated) (defBody s_sum_repeated) (defScope s_sum_repeated) .none kV_sum_repeated dc_sum_repeated pm_sum_repeated an_sum_repeated cd_sum_repeated ct_sum_repeated, f_Course___init__ := f_Course___init__, d_Course___init__ := PySem.W.fnOf "__init__" "Course.__init__" (defArgs s_Course___init__) (defBody s_Course___init__) (defScope s_Course___init__) .none kV_Course___init__ dc_Course___init__ pm_Course___init__ an_Course___init__ cd_Course___init__ ct_Course___init__, f_Course_stock_at := f_Course_stock_at, d_Course_stock_at := PySem.W.fnOf "stock_at" "Course.stock_at" (defArgs s_Course_stock_at) (defBody s_Course_stock_at) (defScope s_Course_stock_at) .none kV_Course_stock_at dc_Course_stock_at pm_Course_stock_at an_Course_stock_at cd_Course_stock_at ct_Course_stock_at, f_Course_sales_on := f_Course_sales_on, d_Course_sales_on := PySem.W.fnOf "sales_on" "Course.sales_on" (defArgs s_Course_sales_on) (defBody s_Course_sales_on) (defScope s_Course_sales_on) .none kV_Course_sales_on dc_Course_sales_on pm_Course_sales_on an_Course_sales_on cd_Course_sales_on ct_Course_sales_on, f_Course_sales_before := f_Course_sales_before, d_Course_sales_before := PySem.W.fnOf "sales_before" "Course.sales_before" (defArgs s_Course_sales_before) (defBody s_Course_sales_before) (defScope s_Course_sales_before) .none kV_Course_sales_before dc_Course_sales_before pm_Course_sales_before an_Course_sales_before cd_Course_sales_before ct_Course_sales_before, f_Course_loaves_at := f_Course_loaves_at, d_Course_loaves_at := PySem.W.fnOf "loaves_at" "Course.loaves_at" (defArgs s_Course_loaves_at) (defBody s_Course_loaves_at) (defScope s_Course_loaves_at) .none kV_Course_loaves_at dc_Course_loaves_at pm_Course_loaves_at an_Course_loaves_at cd_Course_loaves_at ct_Course_loaves_at, f_Course_find_settled := f_Course_find_settled, d_Course_find_settled := PySem.W.fnOf "find_settled" "Course.find_settled" (defArgs s_Course_find_settled) (defBody s_Course_find_settled) (defScope s_Course_find_settled) .none kV_Course_find_settled dc_Course_find_settled pm_Course_find_settled an_Course_find_settled cd_Course_find_settled ct_Course_find_settled, f_Course_sum_settled_round := f_Course_sum_settled_round, d_Course_sum_settled_round := PySem.W.fnOf "sum_settled_round" "Course.sum_settled_round" (defArgs s_Course_sum_settled_round) (defBody s_Course_sum_settled_round) (defScope s_Course_sum_settled_round) .none kV_Course_sum_settled_round dc_Course_sum_settled_round pm_Course_sum_settled_round an_Course_sum_settled_round cd_Course_sum_settled_round ct_Course_sum_settled_round, f_Course__play_round := f_Course__play_round, d_Course__play_round := PySem.W.fnOf "_play_round" "Course._play_round" (defArgs s_Course__play_round) (defBody s_Course__play_round) (defScope s_Course__play_round) .none kV_Course__play_round dc_Course__play_round pm_Course__play_round an_Course__play_round cd_Course__play_round ct_Course__play_round, f_Course__stocks_in := f_Course__stocks_in, d_Course__stocks_in := PySem.W.fnOf "_stocks_in" "Course._stocks_in" (defArgs s_Course__stocks_in) (defBody s_Course__stocks_in) (defScope s_Course__stocks_in) .none kV_Course__stocks_in dc_Course__stocks_in pm_Course__stocks_in an_Course__stocks_in cd_Course__stocks_in ct_Course__stocks_in, f_Course__misses_in := f_Course__misses_in, d_Course__misses_in := PySem.W.fnOf "_misses_in" "Course._misses_in" (defArgs s_Course__misses_in) (defBody s_Course__misses_in) (defScope s_Course__misses_in) .none kV_Course__misses_in dc_Course__misses_in pm_Course__misses_in an_Course__misses_in cd_Course__misses_in ct_Course__misses_in, f_Course__count_growing := f_Course__count_growing, d_Course__count_growing := PySem.W.fnOf "_count_growing" "Course._count_growing" (defArgs s_Course__count_growing) (defBody s_Course__count_growing) (defScope s_Course__count_growing) .none kV_Course__count_growing dc_Course__count_growing pm_Course__count_growing an_Course__count_growing cd_Course__count_growing ct_Course__count_growing, f_check_number := f_check_number, d_check_number := PySem.W.fnOf "check_number" "check_number" (defArgs s_check_number) (defBody s_check_number) (defScope s_check_number) .none kV_check_number dc_check_number pm_check_number an_check_number cd_check_number ct_check_number, f_check_amounts := f_check_amounts, d_check_amounts := PySem.W.fnOf "check_amounts" "check_amounts" (defArgs s_check_amounts) (defBody s_check_amounts) (defScope s_check_amounts) .none kV_check_amounts dc_check_amounts pm_check_amounts an_check_amounts cd_check_amounts ct_check_amounts, f_check_life := f_check_life, d_check_life := PySem.W.fnOf "check_life" "check_life" (defArgs s_check_life) (defBody s_check_life) (defScope s_check_life) .none kV_check_life dc_check_life pm_check_life an_check_life cd_check_life ct_check_life, f_check_bakery := f_check_bakery, d_check_bakery := PySem.W.fnOf "check_bakery" "check_bakery" (defArgs s_check_bakery) (defBody s_check_bakery) (defScope s_check_bakery) .none kV_check_bakery dc_check_bakery pm_check_bakery an_check_bakery cd_check_bakery ct_check_bakery, f_Bakery___init__ := f_Bakery___init__, d_Bakery___init__ := PySem.W.fnOf "__init__" "Bakery.__init__" (defArgs s_Bakery___init__) (defBody s_Bakery___init__) (defScope s_Bakery___init__) .none kV_Bakery___init__ dc_Bakery___init__ pm_Bakery___init__ an_Bakery___init__ cd_Bakery___init__ ct_Bakery___init__, f_Bakery_settled_day := f_Bakery_settled_day, d_Bakery_settled_day := PySem.W.fnOf "settled_day" "Bakery.settled_day" (defArgs s_Bakery_settled_day) (defBody s_Bakery_settled_day) (defScope s_Bakery_settled_day) .none kV_Bakery_settled_day dc_Bakery_settled_day pm_Bakery_settled_day an_Bakery_settled_day cd_Bakery_settled_day ct_Bakery_settled_day, pr_Bakery_settled_day := pr_Bakery_settled_day, f_Bakery_long_run := f_Bakery_long_run, d_Bakery_long_run := PySem.W.fnOf "long_run" "Bakery.long_run" (defArgs s_Bakery_long_run) (defBody s_Bakery_long_run) (defScope s_Bakery_long_run) .none kV_Bakery_long_run dc_Bakery_long_run pm_Bakery_long_run an_Bakery_long_run cd_Bakery_long_run ct_Bakery_long_run, pr_Bakery_long_run := pr_Bakery_long_run, f_Bakery_stock := f_Bakery_stock, d_Bakery_stock := PySem.W.fnOf "stock" "Bakery.stock" (defArgs s_Bakery_stock) (defBody s_Bakery_stock) (defScope s_Bakery_stock) .none kV_Bakery_stock dc_Bakery_stock pm_Bakery_stock an_Bakery_stock cd_Bakery_stock ct_Bakery_stock, f_Bakery_sold := f_Bakery_sold, d_Bakery_sold := PySem.W.fnOf "sold" "Bakery.sold" (defArgs s_Bakery_sold) (defBody s_Bakery_sold) (defScope s_Bakery_sold) .none kV_Bakery_sold dc_Bakery_sold pm_Bakery_sold an_Bakery_sold cd_Bakery_sold ct_Bakery_sold, f_Bakery_missed := f_Bakery_missed, d_Bakery_missed := PySem.W.fnOf "missed" "Bakery.missed" (defArgs s_Bakery_missed) (defBody s_Bakery_missed) (defScope s_Bakery_missed) .none kV_Bakery_missed dc_Bakery_missed pm_Bakery_missed an_Bakery_missed cd_Bakery_missed ct_Bakery_missed, f_Bakery_totals := f_Bakery_totals, d_Bakery_totals := PySem.W.fnOf "totals" "Bakery.totals" (defArgs s_Bakery_totals) (defBody s_Bakery_totals) (defScope s_Bakery_totals) .none kV_Bakery_totals dc_Bakery_totals pm_Bakery_totals an_Bakery_totals cd_Bakery_totals ct_Bakery_totals, f_Bakery_shelf := f_Bakery_shelf, d_Bakery_shelf := PySem.W.fnOf "shelf" "Bakery.shelf" (defArgs s_Bakery_shelf) (defBody s_Bakery_shelf) (defScope s_Bakery_shelf) .none kV_Bakery_shelf dc_Bakery_shelf pm_Bakery_shelf an_Bakery_shelf cd_Bakery_shelf ct_Bakery_shelf, f__law_mix := f__law_mix, d__law_mix := PySem.W.fnOf "_law_mix" "_law_mix" (defArgs s__law_mix) (defBody s__law_mix) (defScope s__law_mix) .none kV__law_mix dc__law_mix pm__law_mix an__law_mix cd__law_mix ct__law_mix, f__law_next := f__law_next, d__law_next := PySem.W.fnOf "_law_next" "_law_next" (defArgs s__law_next) (defBody s__law_next) (defScope s__law_next) .none kV__law_next dc__law_next pm__law_next an__law_next cd__law_next ct__law_next, f__law_amounts := f__law_amounts, d__law_amounts := PySem.W.fnOf "_law_amounts" "_law_amounts" (defArgs s__law_amounts) (defBody s__law_amounts) (defScope s__law_amounts) .none kV__law_amounts dc__law_amounts pm__law_amounts an__law_amounts cd__law_amounts ct__law_amounts, f__law_parts := f__law_parts, d__law_parts := PySem.W.fnOf "_law_parts" "_law_parts" (defArgs s__law_parts) (defBody s__law_parts) (defScope s__law_parts) .none kV__law_parts dc__law_parts pm__law_parts an__law_parts cd__law_parts ct__law_parts, f__law_alike := f__law_alike, d__law_alike := PySem.W.fnOf "_law_alike" "_law_alike" (defArgs s__law_alike) (defBody s__law_alike) (defScope s__law_alike) .none kV__law_alike dc__law_alike pm__law_alike an__law_alike cd__law_alike ct__law_alike, f__law_constant_right := f__law_constant_right, d__law_constant_right := PySem.W.fnOf "_law_constant_right" "_law_constant_right" (defArgs s__law_constant_right) (defBody s__law_constant_right) (defScope s__law_constant_right) .none kV__law_constant_right dc__law_constant_right pm__law_constant_right an__law_constant_right cd__law_constant_right ct__law_constant_right, f_law := fa, d_law := PySem.W.fnOf "law" "law" (defArgs s_law) (defBody s_law) (defScope s_law) .none kV_law dc_law pm_law an_law cd_law ct_law } :=
    { g_Course := PySem.W.mg_of X G g_Course,
      cl_Course := ⟨pg_Course, hd_Course, po_Course, sa_Course⟩,
      g_Bakery := PySem.W.mg_of X G g_Bakery,
      cl_Bakery := ⟨pg_Bakery, hd_Bakery, po_Bakery, sa_Bakery⟩,
      na_Course__bakes := na_Course__bakes,
      na_Course__demands := na_Course__demands,
      na_Course__keepable := na_Course__keepable,
      na_Course__gain := na_Course__gain,
      na_Course__first_end := na_Course__first_end,
      na_Course__full_end := na_Course__full_end,
      na_Course__first_misses := na_Course__first_misses,
      na_Course__later_misses := na_Course__later_misses,
      na_Bakery__bakes := na_Bakery__bakes,
      na_Bakery__demands := na_Bakery__demands,
      na_Bakery__life := na_Bakery__life,
      na_Bakery_course := na_Bakery_course,
      na_Bakery__settled_day := na_Bakery__settled_day,
      na_Bakery__long_run := na_Bakery__long_run,
      cv_Bakery_MAX_DAYS := ⟨⟨rd_Bakery, gt_Bakery⟩, _, ⟨cv_Bakery_MAX_DAYS, ⟨_, rfl⟩⟩⟩,
      cv_Bakery_MAX_LIFE := ⟨⟨rd_Bakery, gt_Bakery⟩, _, ⟨cv_Bakery_MAX_LIFE, ⟨_, rfl⟩⟩⟩,
      g_MOST_LOAVES := PySem.W.mg_of X G g_MOST_LOAVES,
      g_LAST_DAY := PySem.W.mg_of X G g_LAST_DAY,
      b_bool := PySem.W.mg_none_of X G b_bool,
      b_dict := PySem.W.mg_none_of X G b_dict,
      b_divmod := PySem.W.mg_none_of X G b_divmod,
      b_enumerate := PySem.W.mg_none_of X G b_enumerate,
      b_int := PySem.W.mg_none_of X G b_int,
      b_isinstance := PySem.W.mg_none_of X G b_isinstance,
      b_len := PySem.W.mg_none_of X G b_len,
      b_list := PySem.W.mg_none_of X G b_list,
      b_max := PySem.W.mg_none_of X G b_max,
      b_min := PySem.W.mg_none_of X G b_min,
      b_range := PySem.W.mg_none_of X G b_range,
      b_str := PySem.W.mg_none_of X G b_str,
      b_sum := PySem.W.mg_none_of X G b_sum,
      b_tuple := PySem.W.mg_none_of X G b_tuple,
      b_zip := PySem.W.mg_none_of X G b_zip,
      g_count_keepable := PySem.W.mg_of X G a_count_keepable,
      F_count_keepable := F_count_keepable,
      b_count_keepable := B_count_keepable,
      g_sum_repeated := PySem.W.mg_of X G a_sum_repeated,
      F_sum_repeated := F_sum_repeated,
      b_sum_repeated := B_sum_repeated,
      mk_Course := ⟨mk_Course, a_Course___init__, i_Course___init__, kc_Course⟩,
      F_Course___init__ := F_Course___init__,
      b_Course___init__ := B_Course___init__,
      m_Course_stock_at := ⟨a_Course_stock_at, i_Course_stock_at, k_Course_stock_at⟩,
      F_Course_stock_at := F_Course_stock_at,
      b_Course_stock_at := B_Course_stock_at,
      m_Course_sales_on := ⟨a_Course_sales_on, i_Course_sales_on, k_Course_sales_on⟩,
      F_Course_sales_on := F_Course_sales_on,
      b_Course_sales_on := B_Course_sales_on,
      m_Course_sales_before := ⟨a_Course_sales_before, i_Course_sales_before, k_Course_sales_before⟩,
      F_Course_sales_before := F_Course_sales_before,
      b_Course_sales_before := B_Course_sales_before,
      m_Course_loaves_at := ⟨a_Course_loaves_at, i_Course_loaves_at, k_Course_loaves_at⟩,
      F_Course_loaves_at := F_Course_loaves_at,
      b_Course_loaves_at := B_Course_loaves_at,
      m_Course_find_settled := ⟨a_Course_find_settled, i_Course_find_settled, k_Course_find_settled⟩,
      F_Course_find_settled := F_Course_find_settled,
      b_Course_find_settled := B_Course_find_settled,
      m_Course_sum_settled_round := ⟨a_Course_sum_settled_round, i_Course_sum_settled_round, k_Course_sum_settled_round⟩,
      F_Course_sum_settled_round := F_Course_sum_settled_round,
      b_Course_sum_settled_round := B_Course_sum_settled_round,
      m_Course__play_round := ⟨a_Course__play_round, i_Course__play_round, k_Course__play_round⟩,
      F_Course__play_round := F_Course__play_round,
      b_Course__play_round := B_Course__play_round,
      m_Course__stocks_in := ⟨a_Course__stocks_in, i_Course__stocks_in, k_Course__stocks_in⟩,
      F_Course__stocks_in := F_Course__stocks_in,
      b_Course__stocks_in := B_Course__stocks_in,
      m_Course__misses_in := ⟨a_Course__misses_in, i_Course__misses_in, k_Course__misses_in⟩,
      F_Course__misses_in := F_Course__misses_in,
      b_Course__misses_in := B_Course__misses_in,
      m_Course__count_growing := ⟨a_Course__count_growing, i_Course__count_growing, k_Course__count_growing⟩,
      F_Course__count_growing := F_Course__count_growing,
      b_Course__count_growing := B_Course__count_growing,
      g_check_number := PySem.W.mg_of X G a_check_number,
      F_check_number := F_check_number,
      b_check_number := B_check_number,
      g_check_amounts := PySem.W.mg_of X G a_check_amounts,
      F_check_amounts := F_check_amounts,
      b_check_amounts := B_check_amounts,
      g_check_life := PySem.W.mg_of X G a_check_life,
      F_check_life := F_check_life,
      b_check_life := B_check_life,
      g_check_bakery := PySem.W.mg_of X G a_check_bakery,
      F_check_bakery := F_check_bakery,
      b_check_bakery := B_check_bakery,
      mk_Bakery := ⟨mk_Bakery, a_Bakery___init__, i_Bakery___init__, kc_Bakery⟩,
      F_Bakery___init__ := F_Bakery___init__,
      b_Bakery___init__ := B_Bakery___init__,
      pp_Bakery_settled_day := ⟨a_Bakery_settled_day, pg_Bakery_settled_day, pt_Bakery_settled_day, ⟨_, pr1_Bakery_settled_day⟩⟩,
      F_Bakery_settled_day := F_Bakery_settled_day,
      b_Bakery_settled_day := B_Bakery_settled_day,
      pp_Bakery_long_run := ⟨a_Bakery_long_run, pg_Bakery_long_run, pt_Bakery_long_run, ⟨_, pr1_Bakery_long_run⟩⟩,
      F_Bakery_long_run := F_Bakery_long_run,
      b_Bakery_long_run := B_Bakery_long_run,
      m_Bakery_stock := ⟨a_Bakery_stock, i_Bakery_stock, k_Bakery_stock⟩,
      F_Bakery_stock := F_Bakery_stock,
      b_Bakery_stock := B_Bakery_stock,
      m_Bakery_sold := ⟨a_Bakery_sold, i_Bakery_sold, k_Bakery_sold⟩,
      F_Bakery_sold := F_Bakery_sold,
      b_Bakery_sold := B_Bakery_sold,
      m_Bakery_missed := ⟨a_Bakery_missed, i_Bakery_missed, k_Bakery_missed⟩,
      F_Bakery_missed := F_Bakery_missed,
      b_Bakery_missed := B_Bakery_missed,
      m_Bakery_totals := ⟨a_Bakery_totals, i_Bakery_totals, k_Bakery_totals⟩,
      F_Bakery_totals := F_Bakery_totals,
      b_Bakery_totals := B_Bakery_totals,
      m_Bakery_shelf := ⟨a_Bakery_shelf, i_Bakery_shelf, k_Bakery_shelf⟩,
      F_Bakery_shelf := F_Bakery_shelf,
      b_Bakery_shelf := B_Bakery_shelf,
      g__law_mix := PySem.W.mg_of X G a__law_mix,
      F__law_mix := F__law_mix,
      b__law_mix := B__law_mix,
      g__law_next := PySem.W.mg_of X G a__law_next,
      F__law_next := F__law_next,
      b__law_next := B__law_next,
      g__law_amounts := PySem.W.mg_of X G a__law_amounts,
      F__law_amounts := F__law_amounts,
      b__law_amounts := B__law_amounts,
      g__law_parts := PySem.W.mg_of X G a__law_parts,
      F__law_parts := F__law_parts,
      b__law_parts := B__law_parts,
      g__law_alike := PySem.W.mg_of X G a__law_alike,
      F__law_alike := F__law_alike,
      b__law_alike := B__law_alike,
      g__law_constant_right := PySem.W.mg_of X G a__law_constant_right,
      F__law_constant_right := F__law_constant_right,
      b__law_constant_right := B__law_constant_right,
      g_law := PySem.W.mg_of X G a_law,
      F_law := F_law,
      b_law := B_law }
  exact ⟨PySem.W.fnOf "law" "law" (defArgs s_law) (defBody s_law) (defScope s_law) .none kV_law dc_law pm_law an_law cd_law ct_law, fun s v => .of_eq rfl, fun base _ _ => ok_law T⟩
theorem walk {l : PySem.W.OpenLaw} {q : Program} {loose : List Str} {XP : (Str → Option Value) → Heap → Prop} {YP : World → Heap → Prop} {d : DefRec} {K : Params → PySem.W.Frag} (hn : l.most = some 63) (hdf : d.params.defaults = [])
    (hY : ∀ (w : World) (h : Heap), YP w h → (K w.params).In h)
    (F : ∀ (w : World) (mg : Str → Option Value) (fa : Addr) (h : Heap), (K w.params).In h → h.Ns mainGlobals mg → mg d.name = some (.ref fa) →
      ∃ fd : FuncData, (∀ (s : Shared) (u : Value), BindsTo s fd ⟨[u], []⟩ [("_law_script", u)]) ∧ ∀ base : Heap, (K w.params).In base → base.Ns mainGlobals mg → FnOk l.prog w (K w.params) mg base CX0 9 fa fd ["_law_script"] (sp_law (K w.params))) :
    PySem.W.WalkO q loose XP YP l.row.toRowW d [] (fun f vs => PySem.call f vs) :=
  L2.walk_of (n := 63) (k := 9) (x := "_law_script") (CX := fun _ => CX0) (sp := fun w => sp_law (K w.params)) hn (by decide) hdf ⟨rfl, by decide, by decide⟩ hY F (fun _ _ a ns hl _ hS => ⟨a, ns, rfl, hS, hl, fun _ => rfl⟩) fun _ _ _ _ _ z => z
end Sw

open PySem PySem.W PyProof.Rows
set_option maxRecDepth 100000 in
set_option maxHeartbeats 0 in
theorem PySem.Challenge.cw_staleloaves_k12_whole_known_bakeries_holds : PySem.Challenge.rw_staleloaves_k12_whole_known_bakeries.Holds := by
  w_on; o_law; k_head; (case hw => w_witness2)
  k_fill
  refine Sw.walk (l := PySem.Challenge.rw_staleloaves_k12_whole_known_bakeries) rfl rfl (fun w h Y => PySem.W.kIn_of Y) ?F
  case F =>
    intro w mg fa h KX G hmg
    refine' Sw.all_mk KX G hmg ?g_Course ?pg_Course ?hd_Course ?po_Course ?sa_Course ?mk_Course ?kc_Course ?g_Bakery ?pg_Bakery ?hd_Bakery ?po_Bakery ?sa_Bakery ?mk_Bakery ?kc_Bakery ?na_Course__bakes ?na_Course__demands ?na_Course__keepable ?na_Course__gain ?na_Course__first_end ?na_Course__full_end ?na_Course__first_misses ?na_Course__later_misses ?na_Bakery__bakes ?na_Bakery__demands ?na_Bakery__life ?na_Bakery_course ?na_Bakery__settled_day ?na_Bakery__long_run ?rd_Bakery ?gt_Bakery ?cv_Bakery_MAX_DAYS ?cv_Bakery_MAX_LIFE ?g_MOST_LOAVES ?g_LAST_DAY ?b_bool ?b_dict ?b_divmod ?b_enumerate ?b_int ?b_isinstance ?b_len ?b_list ?b_max ?b_min ?b_range ?b_str ?b_sum ?b_tuple ?b_zip ?a_count_keepable ?l_count_keepable ?q_count_keepable ?k_count_keepable ?a_sum_repeated ?l_sum_repeated ?q_sum_repeated ?k_sum_repeated ?a_Course___init__ ?i_Course___init__ ?l_Course___init__ ?q_Course___init__ ?k_Course___init__ ?a_Course_stock_at ?i_Course_stock_at ?l_Course_stock_at ?q_Course_stock_at ?k_Course_stock_at ?a_Course_sales_on ?i_Course_sales_on ?l_Course_sales_on ?q_Course_sales_on ?k_Course_sales_on ?a_Course_sales_before ?i_Course_sales_before ?l_Course_sales_before ?q_Course_sales_before ?k_Course_sales_before ?a_Course_loaves_at ?i_Course_loaves_at ?l_Course_loaves_at ?q_Course_loaves_at ?k_Course_loaves_at ?a_Course_find_settled ?i_Course_find_settled ?l_Course_find_settled ?q_Course_find_settled ?k_Course_find_settled ?a_Course_sum_settled_round ?i_Course_sum_settled_round ?l_Course_sum_settled_round ?q_Course_sum_settled_round ?k_Course_sum_settled_round ?a_Course__play_round ?i_Course__play_round ?l_Course__play_round ?q_Course__play_round ?k_Course__play_round ?a_Course__stocks_in ?i_Course__stocks_in ?l_Course__stocks_in ?q_Course__stocks_in ?k_Course__stocks_in ?a_Course__misses_in ?i_Course__misses_in ?l_Course__misses_in ?q_Course__misses_in ?k_Course__misses_in ?a_Course__count_growing ?i_Course__count_growing ?l_Course__count_growing ?q_Course__count_growing ?k_Course__count_growing ?a_check_number ?l_check_number ?q_check_number ?k_check_number ?a_check_amounts ?l_check_amounts ?q_check_amounts ?k_check_amounts ?a_check_life ?l_check_life ?q_check_life ?k_check_life ?a_check_bakery ?l_check_bakery ?q_check_bakery ?k_check_bakery ?a_Bakery___init__ ?i_Bakery___init__ ?l_Bakery___init__ ?q_Bakery___init__ ?k_Bakery___init__ ?a_Bakery_settled_day ?pg_Bakery_settled_day ?pt_Bakery_settled_day ?pr1_Bakery_settled_day ?l_Bakery_settled_day ?q_Bakery_settled_day ?k_Bakery_settled_day ?a_Bakery_long_run ?pg_Bakery_long_run ?pt_Bakery_long_run ?pr1_Bakery_long_run ?l_Bakery_long_run ?q_Bakery_long_run ?k_Bakery_long_run ?a_Bakery_stock ?i_Bakery_stock ?l_Bakery_stock ?q_Bakery_stock ?k_Bakery_stock ?a_Bakery_sold ?i_Bakery_sold ?l_Bakery_sold ?q_Bakery_sold ?k_Bakery_sold ?a_Bakery_missed ?i_Bakery_missed ?l_Bakery_missed ?q_Bakery_missed ?k_Bakery_missed ?a_Bakery_totals ?i_Bakery_totals ?l_Bakery_totals ?q_Bakery_totals ?k_Bakery_totals ?a_Bakery_shelf ?i_Bakery_shelf ?l_Bakery_shelf ?q_Bakery_shelf ?k_Bakery_shelf ?a__law_mix ?l__law_mix ?q__law_mix ?k__law_mix ?a__law_next ?l__law_next ?q__law_next ?k__law_next ?a__law_amounts ?l__law_amounts ?q__law_amounts ?k__law_amounts ?a__law_parts ?l__law_parts ?q__law_parts ?k__law_parts ?a__law_alike ?l__law_alike ?q__law_alike ?k__law_alike ?a__law_constant_right ?l__law_constant_right ?q__law_constant_right ?k__law_constant_right ?a_law ?l_law ?q_law ?k_law
    (case g_Course => k_is)
    (case pg_Course => k_is)
    (case hd_Course => k_is)
    (case po_Course => k_is)
    (case sa_Course => k_is)
    (case mk_Course => k_is)
    (case kc_Course => k_is)
    (case g_Bakery => k_is)
    (case pg_Bakery => k_is)
    (case hd_Bakery => k_is)
    (case po_Bakery => k_is)
    (case sa_Bakery => k_is)
    (case mk_Bakery => k_is)
    (case kc_Bakery => k_is)
    (case na_Course__bakes => k_is)
    (case na_Course__demands => k_is)
    (case na_Course__keepable => k_is)
    (case na_Course__gain => k_is)
    (case na_Course__first_end => k_is)
    (case na_Course__full_end => k_is)
    (case na_Course__first_misses => k_is)
    (case na_Course__later_misses => k_is)
    (case na_Bakery__bakes => k_is)
    (case na_Bakery__demands => k_is)
    (case na_Bakery__life => k_is)
    (case na_Bakery_course => k_is)
    (case na_Bakery__settled_day => k_is)
    (case na_Bakery__long_run => k_is)
    (case rd_Bakery => k_is)
    (case gt_Bakery => k_is)
    (case cv_Bakery_MAX_DAYS => k_is)
    (case cv_Bakery_MAX_LIFE => k_is)
    (case g_MOST_LOAVES => k_is)
    (case g_LAST_DAY => k_is)
    (case b_bool => k_is)
    (case b_dict => k_is)
    (case b_divmod => k_is)
    (case b_enumerate => k_is)
    (case b_int => k_is)
    (case b_isinstance => k_is)
    (case b_len => k_is)
    (case b_list => k_is)
    (case b_max => k_is)
    (case b_min => k_is)
    (case b_range => k_is)
    (case b_str => k_is)
    (case b_sum => k_is)
    (case b_tuple => k_is)
    (case b_zip => k_is)
    (case a_count_keepable => k_is)
    (case l_count_keepable => k_is)
    (case q_count_keepable => k_is)
    (case k_count_keepable => k_is)
    (case a_sum_repeated => k_is)
    (case l_sum_repeated => k_is)
    (case q_sum_repeated => k_is)
    (case k_sum_repeated => k_is)
    (case a_Course___init__ => k_is)
    (case i_Course___init__ => k_is)
    (case l_Course___init__ => k_is)
    (case q_Course___init__ => k_is)
    (case k_Course___init__ => k_is)
    (case a_Course_stock_at => k_is)
    (case i_Course_stock_at => k_is)
    (case l_Course_stock_at => k_is)
    (case q_Course_stock_at => k_is)
    (case k_Course_stock_at => k_is)
    (case a_Course_sales_on => k_is)
    (case i_Course_sales_on => k_is)
    (case l_Course_sales_on => k_is)
    (case q_Course_sales_on => k_is)
    (case k_Course_sales_on => k_is)
    (case a_Course_sales_before => k_is)
    (case i_Course_sales_before => k_is)
    (case l_Course_sales_before => k_is)
    (case q_Course_sales_before => k_is)
    (case k_Course_sales_before => k_is)
    (case a_Course_loaves_at => k_is)
    (case i_Course_loaves_at => k_is)
    (case l_Course_loaves_at => k_is)
    (case q_Course_loaves_at => k_is)
    (case k_Course_loaves_at => k_is)
    (case a_Course_find_settled => k_is)
    (case i_Course_find_settled => k_is)
    (case l_Course_find_settled => k_is)
    (case q_Course_find_settled => k_is)
    (case k_Course_find_settled => k_is)
    (case a_Course_sum_settled_round => k_is)
    (case i_Course_sum_settled_round => k_is)
    (case l_Course_sum_settled_round => k_is)
    (case q_Course_sum_settled_round => k_is)
    (case k_Course_sum_settled_round => k_is)
    (case a_Course__play_round => k_is)
    (case i_Course__play_round => k_is)
    (case l_Course__play_round => k_is)
    (case q_Course__play_round => k_is)
    (case k_Course__play_round => k_is)
    (case a_Course__stocks_in => k_is)
    (case i_Course__stocks_in => k_is)
    (case l_Course__stocks_in => k_is)
    (case q_Course__stocks_in => k_is)
    (case k_Course__stocks_in => k_is)
    (case a_Course__misses_in => k_is)
    (case i_Course__misses_in => k_is)
    (case l_Course__misses_in => k_is)
    (case q_Course__misses_in => k_is)
    (case k_Course__misses_in => k_is)
    (case a_Course__count_growing => k_is)
    (case i_Course__count_growing => k_is)
    (case l_Course__count_growing => k_is)
    (case q_Course__count_growing => k_is)
    (case k_Course__count_growing => k_is)
    (case a_check_number => k_is)
    (case l_check_number => k_is)
    (case q_check_number => k_is)
    (case k_check_number => k_is)
    (case a_check_amounts => k_is)
    (case l_check_amounts => k_is)
    (case q_check_amounts => k_is)
    (case k_check_amounts => k_is)
    (case a_check_life => k_is)
    (case l_check_life => k_is)
    (case q_check_life => k_is)
    (case k_check_life => k_is)
    (case a_check_bakery => k_is)
    (case l_check_bakery => k_is)
    (case q_check_bakery => k_is)
    (case k_check_bakery => k_is)
    (case a_Bakery___init__ => k_is)
    (case i_Bakery___init__ => k_is)
    (case l_Bakery___init__ => k_is)
    (case q_Bakery___init__ => k_is)
    (case k_Bakery___init__ => k_is)
    (case a_Bakery_settled_day => k_is)
    (case pg_Bakery_settled_day => k_is)
    (case pt_Bakery_settled_day => k_is)
    (case pr1_Bakery_settled_day => k_is)
    (case l_Bakery_settled_day => k_is)
    (case q_Bakery_settled_day => k_is)
    (case k_Bakery_settled_day => k_is)
    (case a_Bakery_long_run => k_is)
    (case pg_Bakery_long_run => k_is)
    (case pt_Bakery_long_run => k_is)
    (case pr1_Bakery_long_run => k_is)
    (case l_Bakery_long_run => k_is)
    (case q_Bakery_long_run => k_is)
    (case k_Bakery_long_run => k_is)
    (case a_Bakery_stock => k_is)
    (case i_Bakery_stock => k_is)
    (case l_Bakery_stock => k_is)
    (case q_Bakery_stock => k_is)
    (case k_Bakery_stock => k_is)
    (case a_Bakery_sold => k_is)
    (case i_Bakery_sold => k_is)
    (case l_Bakery_sold => k_is)
    (case q_Bakery_sold => k_is)
    (case k_Bakery_sold => k_is)
    (case a_Bakery_missed => k_is)
    (case i_Bakery_missed => k_is)
    (case l_Bakery_missed => k_is)
    (case q_Bakery_missed => k_is)
    (case k_Bakery_missed => k_is)
    (case a_Bakery_totals => k_is)
    (case i_Bakery_totals => k_is)
    (case l_Bakery_totals => k_is)
    (case q_Bakery_totals => k_is)
    (case k_Bakery_totals => k_is)
    (case a_Bakery_shelf => k_is)
    (case i_Bakery_shelf => k_is)
    (case l_Bakery_shelf => k_is)
    (case q_Bakery_shelf => k_is)
    (case k_Bakery_shelf => k_is)
    (case a__law_mix => k_is)
    (case l__law_mix => k_is)
    (case q__law_mix => k_is)
    (case k__law_mix => k_is)
    (case a__law_next => k_is)
    (case l__law_next => k_is)
    (case q__law_next => k_is)
    (case k__law_next => k_is)
    (case a__law_amounts => k_is)
    (case l__law_amounts => k_is)
    (case q__law_amounts => k_is)
    (case k__law_amounts => k_is)
    (case a__law_parts => k_is)
    (case l__law_parts => k_is)
    (case q__law_parts => k_is)
    (case k__law_parts => k_is)
    (case a__law_alike => k_is)
    (case l__law_alike => k_is)
    (case q__law_alike => k_is)
    (case k__law_alike => k_is)
    (case a__law_constant_right => k_is)
    (case l__law_constant_right => k_is)
    (case q__law_constant_right => k_is)
    (case k__law_constant_right => k_is)
    (case a_law => k_is)
    (case l_law => k_is)
    (case q_law => k_is)
    (case k_law => k_is)
