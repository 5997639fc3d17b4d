import PyProof.Rows.All
import Wide.All
import OpenK.AllK
import Wide.FinOn
import HandS.ForMost
import KE.GoesMore
import KE.GoesEnum
import KE.KTupSum
import HandS.Evl
import HandS.TupAny
import HandS.Wide
import HandS.Style
import HandS.Property
import HandS.ClsMeth
import HandS.WideBits
import HandS.Steps
import HandS.Walk
import HandS.Strs
import HandS.SetFor
import HandS.IsInst
import KE.KLam
import HandS.Codes
import HandS.TryOnly
import HandS.Lambda
import HandS.Nested
import HandS.EndTab
import HandS.EndOwn
import HandS.ExcInit
import HandS.ExcOwn
import HandS.ExcField
import HandS.ExcIs
import HandS.WordsExc
import HandS.FStr
import KE.KSuper
import KE.KExcSuper
import KE.KExcIs
import HandS.TupMul
import HandS.Small
import HandS.Flow
import HandS.Flt
import HandS.Star
import KE.KOpsOwn
import HandS.RevRange
import HandS.Conv
import KE.GoesComp
import KE.GoesEnumKw
import HandS.StrMore
import HandS.ReplaceLit
import HandS.Zip
import PyProof.FString3
import HandS.TryMany
import PySem.Challenge.RW_staleloaves_k47_reports
set_option Elab.async false
set_option linter.all false
set_option maxRecDepth 100000
set_option maxHeartbeats 4000000
namespace Sw
open PySem PySem.Spec PyProof.Rows L2
/-! ### zip of a tuple, a tuple and a list; enumerate of a tuple -/
def Itz3 (K : PySem.W.Frag) (a b c : Addr) : It :=
  ⟨fun i H => ∃ (xs ys zs : List V) (x y z : V), SqT K H a xs ∧ SqT K H b ys ∧ SqL K H c zs ∧ xs[i]? = some x ∧ ys[i]? = some y ∧ zs[i]? = some z,
    fun i H v H' => ∃ T x y z, v = .ref T ∧ H T = none ∧ H' = upd H T (.tup [x, y, z]) ∧ (∀ xs, SqT K H a xs → xs[i]? = some x) ∧ (∀ ys, SqT K H b ys → ys[i]? = some y) ∧ ∀ zs, SqL K H c zs → zs[i]? = some z,
    fun i H => ∃ xs ys zs : List V, SqT K H a xs ∧ SqT K H b ys ∧ SqL K H c zs ∧ xs.length = i ∧ ys.length = i ∧ zs.length = i⟩
theorem turn_zip3 {P : Program} {w : World} {K : PySem.W.Frag} {elts : List Expr} {kk : Nat} {tpos : Pos} {a b c z TI TO i1 i2 i3 : Addr}
    (D : ZipSep3 z TI TO i1 i2 i3 [i1, a] [i2, b] [i3, c]) (h1a : a ≠ i1) (h2b : b ≠ i2) (h3c : c ≠ i3) :
    Turn P w K (.Tuple elts kk tpos) (Itz3 K a b c) [z, TI, TO, i1, i2, i3] z (fun i h => IsZip h z TI TO .none ∧ IsTupOf3 h TI (.ref i1) (.ref i2) (.ref i3) ∧ (∃ x y u, IsTupOf3 h TO x y u) ∧ h.IsTupleIter i1 a i ∧ h.IsTupleIter i2 b i ∧ h.IsListIter i3 c i) where
  mem := by simp
  obj := fun i h st d hd => by
    obtain ⟨hz, hTI, ⟨x, y, u, hTO⟩, ⟨o1, e1, _, d1⟩, ⟨o2, e2, _, d2⟩, ⟨o3, e3, _, d3⟩⟩ := st
    have e' : d = z ∨ d = TI ∨ d = TO ∨ d = i1 ∨ d = i2 ∨ d = i3 := by simpa using hd
    rcases e' with q | q | q | q | q | q
    · rw [q]; exact ⟨_, hz, fun v q => nomatch q⟩
    · rw [q]; exact ⟨_, hTI, fun v q => nomatch q⟩
    · rw [q]; exact ⟨_, hTO, fun v q => nomatch q⟩
    · rw [q]; exact ⟨o1, e1, fun v q => by rw [d1] at q; cases q⟩
    · rw [q]; exact ⟨o2, e2, fun v q => by rw [d2] at q; cases q⟩
    · rw [q]; exact ⟨o3, e3, fun v q => by rw [d3] at q; cases q⟩
  keep := fun i h h' st k => by
    obtain ⟨hz, hTI, ⟨x, y, u, hTO⟩, h1, h2, h3⟩ := st
    exact ⟨k z (by simp) _ hz, k TI (by simp) _ hTI, ⟨x, y, u, k TO (by simp) _ hTO⟩, h1.at fun o q => k i1 (by simp) o q, h2.at fun o q => k i2 (by simp) o q, h3.at fun o q => k i3 (by simp) o q⟩
  item := by
    intro X hP hw hK hc i pins s σ H E I hf st hg
    subst hP hw hK
    obtain ⟨hz, hTI, ⟨x0, y0, u0, hTO⟩, h1, h2, h3⟩ := st
    obtain ⟨xs, ys, zs, x, y, u, hqx, hqy, hqz, hx, hy, hu⟩ := hg
    obtain ⟨its, rv, p, _⟩ := I.tuple hqx
    obtain ⟨its2, rv2, p2, _⟩ := I.tuple hqy
    obtain ⟨its3, rv3, p3, _⟩ := I.list hqz
    obtain ⟨u1, hu1, ru1⟩ := rv.get hx
    obtain ⟨u2, hu2, ru2⟩ := rv2.get hy
    obtain ⟨u3, hu3, ru3⟩ := rv3.get hu
    have hh : X.A.in1.handled = none := I.ok.hd hc
    have D1 := Draws.tuple (prog := X.prog) (w := X.w) (A := X.A.in1) hh i1 a h1a its.toArray
    have D2 := Draws.tuple (prog := X.prog) (w := X.w) (A := X.A.in1) hh i2 b h2b its2.toArray
    have D3 := Draws.list (prog := X.prog) (w := X.w) (A := X.A.in1) hh i3 c h3c its3.toArray
    have hzl : z < s.heap.objs.size := Heap.lt_size hz
    have lt1 : i < its.toArray.size := by simpa using (List.getElem?_eq_some_iff.mp hu1).1
    have lt2 : i < its2.toArray.size := by simpa using (List.getElem?_eq_some_iff.mp hu2).1
    have lt3 : i < its3.toArray.size := by simpa using (List.getElem?_eq_some_iff.mp hu3).1
    refine wpAny_pyNext_zipD3_item D D1 D2 D3 hz hTI hTO ⟨h1, p⟩ ⟨h2, p2⟩ ⟨h3, p3.isList⟩ lt1 lt2 lt3 fun x1 x2 x3 h' tk q1 q2 q3 z' TO' s1' s2' s3' hT hsz hk => ?_
    have e1 : x1 = u1 := by have q : its[i]? = some x1 := by simpa using q1
                            rw [hu1] at q; exact (Option.some.inj q).symm
    have e2 : x2 = u2 := by have q : its2[i]? = some x2 := by simpa using q2
                            rw [hu2] at q; exact (Option.some.inj q).symm
    have e3 : x3 = u3 := by have q : its3[i]? = some x3 := by simpa using q3
                            rw [hu3] at q; exact (Option.some.inj q).symm
    subst e1 e2 e3
    refine ⟨_, rfl, wpAny_letOwnedTupleGo_zip (s := { s with heap := h', toks := tk }) z' fun h'' z'' sb => ?_⟩
    have hT2 : h''.get? s.heap.objs.size = some { cls := .type "tuple", data := .seq #[x1, x2, x3] } := (sb.2 _ (Nat.ne_of_gt hzl)).trans hT
    have new : ObjOk X.prog X.w (upd H s.heap.objs.size (.tup [x, y, u])) h'' s.heap.objs.size (.tup [x, y, u]) :=
      ⟨by show 3 ≤ sizeLine; decide, [x1, x2, x3], .cons ru1 (.cons ru2 (.cons ru3 .nil)), ⟨_, hT2, rfl, _, rfl⟩⟩
    have I1 : Inv X pins σ (upd H s.heap.objs.size (.tup [x, y, u])) { s with heap := h'', toks := tk } :=
      I.turnedNew (t' := tk) (ch := [z, TI, TO, i1, i2, i3]) (fun d o hb q => (sb.2 d (fun q' => hb (by simp [q']))).trans (hk d o (fun q' => hb (by simp [q'])) (fun q' => hb (by simp [q'])) (fun q' => hb (by simp [q'])) (fun q' => hb (by simp [q'])) (fun q' => hb (by simp [q'])) q)) hf (Nat.le_refl _) new
    refine ⟨.ref s.heap.objs.size, _, I1, rfl, ⟨_, x, y, u, rfl, I.hok.fresh (Nat.le_refl _), rfl, fun l hl => by rw [I.tuple_inj hl hqx]; exact hx, fun l hl => by rw [I.tuple_inj hl hqy]; exact hy, fun l hl => by rw [I.list_inj hl hqz]; exact hu⟩, ⟨z'', ?_, ⟨x1, x2, x3, ?_⟩, ?_, ?_, ?_⟩, fun d hdm => ?_⟩
    · exact (sb.2 _ D.TIz).trans (hk _ _ D.TIz D.TITO D.TIi1 D.TIi2 D.TIi3 hTI)
    · exact (sb.2 _ D.TOz).trans TO'
    · exact s1'.1.at fun o q => (sb.2 _ D.zi1.symm).trans q
    · exact s2'.1.at fun o q => (sb.2 _ D.zi2.symm).trans q
    · exact s3'.1.at fun o q => (sb.2 _ D.zi3.symm).trans q
    · have hlt : d < s.heap.objs.size := by
        have e' : d = z ∨ d = TI ∨ d = TO ∨ d = i1 ∨ d = i2 ∨ d = i3 := by simpa using hdm
        rcases e' with q | q | q | q | q | q
        · rw [q]; exact hzl
        · rw [q]; exact Heap.lt_size hTI
        · rw [q]; exact Heap.lt_size hTO
        · rw [q]; obtain ⟨_, e1, _⟩ := h1; exact Heap.lt_size e1
        · rw [q]; obtain ⟨_, e2, _⟩ := h2; exact Heap.lt_size e2
        · rw [q]; obtain ⟨_, e3, _⟩ := h3; exact Heap.lt_size e3
      rw [upd_ne (Nat.ne_of_lt hlt)]
      exact (hf d hdm).1
  done := by
    intro X hP hw hK hc i pins s σ H E I hf st hg
    subst hP hw hK
    obtain ⟨hz, hTI, ⟨x0, y0, u0, hTO⟩, h1, h2, h3⟩ := st
    obtain ⟨xs, ys, zs, hqx, hqy, hqz, l1, l2, l3⟩ := hg
    obtain ⟨its, rv, p, _⟩ := I.tuple hqx
    obtain ⟨its2, rv2, p2, _⟩ := I.tuple hqy
    obtain ⟨its3, rv3, p3, _⟩ := I.list hqz
    have m1 : i = its.toArray.size := by have := rv.length; simp; omega
    have m2 : i = its2.toArray.size := by have := rv2.length; simp; omega
    have m3 : i = its3.toArray.size := by have := rv3.length; simp; omega
    have hh : X.A.in1.handled = none := I.ok.hd hc
    have D1 := Draws.tuple (prog := X.prog) (w := X.w) (A := X.A.in1) hh i1 a h1a its.toArray
    have D2 := Draws.tuple (prog := X.prog) (w := X.w) (A := X.A.in1) hh i2 b h2b its2.toArray
    have D3 := Draws.list (prog := X.prog) (w := X.w) (A := X.A.in1) hh i3 c h3c its3.toArray
    exact wpAny_pyNext_zipD3_end D D1 D2 D3 hz hTI hTO ⟨h1, p⟩ ⟨h2, p2⟩ ⟨h3, p3.isList⟩ (Nat.le_of_eq m1) (Nat.le_of_eq m2) (Nat.le_of_eq m3) (.inl m1) fun h' tk hk => ⟨rfl, I.turnedL (t' := tk) (ch := [z, TI, TO, i1, i2, i3]) (fun d o hb q =>
      hk d o (fun q' => hb (by simp [q'])) (fun q' => hb (by simp [q'])) (fun q' => hb (by simp [q'])) (fun q' => hb (by simp [q'])) (fun q' => hb (by simp [q'])) q) hf⟩
  self := fun A i s Q E st h => wpAny_pyIter_zip st.1 h
def iZip3 (K : PySem.W.Frag) (ta : TA) : TI := fun σ H R => ta σ H fun vs H1 => ∃ a b c xs ys zs, vs = [.ref a, .ref b, .ref c] ∧ SqT K H1 a xs ∧ SqT K H1 b ys ∧ SqL K H1 c zs ∧ R (Itz3 K a b c) H1
theorem pi_zip3 {X : Cx} {e e2 e3 : Expr} {ta : TA} {p pos tpos : Pos} {elts : List Expr} {kk : Nat} (hg : Gl X "zip") (hm : X.mg "zip" = none) (ha : PA X [e, e2, e3] ta)
    (hs : starEach [e, e2, e3] X.env = (false, eval e X.env) :: starEach [e2, e3] X.env := by rfl) (hpl : (backTo pos (starEach [e2, e3] X.env)).any (·.1) = false := by rfl) :
    PI X (.Tuple elts kk tpos) (.Call (.Name "zip" p) [e, e2, e3] [] pos) (iZip3 X.K ta) := by
  refine ⟨fun pins s σ H R I h => ?_⟩
  refine Call_ (ld_blt I hg hm PyProof.Rows.boot_zip (PyProof.Rows.callWith_type1 (thn (ha.run pos pins s σ H _ I h) fun us s1 ⟨vs, H1, I1, r1, q1⟩ => ?_) hs hpl))
  obtain ⟨a, b, c, xs, ys, zs, ex, hqx, hqy, hqz, q⟩ := q1
  subst ex
  cases r1 with
  | cons r rr =>
    cases rr with
    | cons r' rr =>
      cases rr with
      | cons r'' rr =>
        cases rr
        cases r
        cases r'
        cases r''
        obtain ⟨its, rv, p1, _⟩ := I1.tuple hqx
        obtain ⟨its2, rv2, p2, _⟩ := I1.tuple hqy
        obtain ⟨its3, rv3, p3, _⟩ := I1.list hqz
        have la : a < s1.heap.objs.size := p1.lt
        have lb : b < s1.heap.objs.size := p2.lt
        have lc : c < s1.heap.objs.size := p3.lt
        refine zip_begins3 (begins_tuple a its.toArray) (begins_tuple b its2.toArray) (begins_list c its3.toArray) p1 p2 p3.isList fun h' hz hTI hTO h1 h2 h3 hsz hk => wpAny_pyIter_zip hz ?_
        have I2 : Inv X pins σ H1 { s1 with heap := h' } := I1.kept (t' := s1.toks) hk
        have sep : ZipSep3 (s1.heap.objs.size + 5) (s1.heap.objs.size + 3) (s1.heap.objs.size + 4) s1.heap.objs.size (s1.heap.objs.size + 1) (s1.heap.objs.size + 2) [s1.heap.objs.size, a] [s1.heap.objs.size + 1, b] [s1.heap.objs.size + 2, c] :=
          zip_sep3 (N := s1.heap.objs.size) (fp1 := [a]) (fp2 := [b]) (fp3 := [c]) (fun d hd => by rw [List.mem_singleton.mp hd]; exact la) (fun d hd => by rw [List.mem_singleton.mp hd]; exact lb) (fun d hd => by rw [List.mem_singleton.mp hd]; exact lc)
        refine ⟨s1.heap.objs.size + 5, [s1.heap.objs.size + 5, s1.heap.objs.size + 3, s1.heap.objs.size + 4, s1.heap.objs.size, s1.heap.objs.size + 1, s1.heap.objs.size + 2], _, _, H1, rfl, I2,
          turn_zip3 sep (Nat.ne_of_lt la) (Nat.ne_of_lt (Nat.lt_succ_of_lt lb)) (Nat.ne_of_lt (Nat.lt_succ_of_lt (Nat.lt_succ_of_lt lc))), ⟨hz, hTI, ⟨_, _, _, hTO⟩, ⟨_, h1, rfl, rfl⟩, ⟨_, h2, rfl, rfl⟩, ⟨_, h3, rfl, rfl⟩⟩, fun d hdm => ?_, q⟩
        have e' : d = s1.heap.objs.size + 5 ∨ d = s1.heap.objs.size + 3 ∨ d = s1.heap.objs.size + 4 ∨ d = s1.heap.objs.size ∨ d = s1.heap.objs.size + 1 ∨ d = s1.heap.objs.size + 2 := by simpa using hdm
        have hle : s1.heap.objs.size ≤ d := by
          rcases e' with z | z | z | z | z | z
          · rw [z]; exact Nat.le_add_right _ _
          · rw [z]; exact Nat.le_add_right _ _
          · rw [z]; exact Nat.le_add_right _ _
          · rw [z]; exact Nat.le_refl _
          · rw [z]; exact Nat.le_add_right _ _
          · rw [z]; exact Nat.le_add_right _ _
        exact I1.fpOk hle (I1.hok.fresh hle)
/-- the tuple at a, each item in a new pair with its number -/
def IteT (K : PySem.W.Frag) (a : Addr) : It :=
  ⟨fun i H => ∃ (xs : List V) (x : V), SqT K H a xs ∧ xs[i]? = some x, fun i H v H' => ∃ T x, v = .ref T ∧ H T = none ∧ H' = upd H T (.tup [.int (i : Nat), x]) ∧ ∀ xs, SqT K H a xs → xs[i]? = some x, fun i H => ∃ xs : List V, SqT K H a xs ∧ xs.length = i⟩
theorem turn_enumT {P : Program} {w : World} {K : PySem.W.Frag} {elts : List Expr} {kk : Nat} {tpos : Pos} (a e it : Addr) (hai : a ≠ it) (hae : e ≠ a) :
    Turn P w K (.Tuple elts kk tpos) (IteT K a) [e, it] e (fun i h => (∃ old, IsEnum h e it ((i : Nat) : Int) old) ∧ h.IsTupleIter it a i ∧ e ≠ it) where
  mem := by simp
  obj := fun i h st b hb => by
    obtain ⟨⟨old, he⟩, ⟨o, ho, hc, hd⟩, _⟩ := st
    have e' : b = e ∨ b = it := by simpa using hb
    rcases e' with z | z
    · rw [z]; exact ⟨_, he, fun v q => nomatch q⟩
    · rw [z]; exact ⟨o, ho, fun v q => by rw [hd] at q; cases q⟩
  keep := fun i h h' st k => let ⟨⟨old, he⟩, hi, hne⟩ := st; ⟨⟨old, k e (by simp) _ he⟩, hi.at fun o q => k it (by simp) o q, hne⟩
  item := by
    intro X hP hw hK hc i pins s σ H E I hf st hg
    subst hP hw hK
    obtain ⟨⟨old, he⟩, hit, hne⟩ := st
    obtain ⟨xs, x, hq, hx⟩ := hg
    obtain ⟨its, rv, p, hz⟩ := I.tuple hq
    obtain ⟨u, hu, ru⟩ := rv.get hx
    have hel : e < s.heap.objs.size := Heap.lt_size he
    have hil : it < s.heap.objs.size := by obtain ⟨_, q, _⟩ := hit; exact Heap.lt_size q
    have hh : X.A.in1.handled = none := I.ok.hd hc
    have D1 := Draws.tuple (prog := X.prog) (w := X.w) (A := X.A.in1) hh it a hai its.toArray
    have lt1 : i < its.toArray.size := by simpa using (List.getElem?_eq_some_iff.mp hu).1
    have hef : e ∉ [it, a] := by simp [hne, hae]
    refine wpAny_pyNext_enum_itemD D1 he ⟨hit, p⟩ lt1 hne hef fun x1 h' tk q1 ho st' hT hsz hk => ?_
    have e1 : x1 = u := by have q : its[i]? = some x1 := by simpa using q1
                           rw [hu] at q; exact (Option.some.inj q).symm
    subst e1
    refine ⟨_, rfl, wpAny_letOwnedTupleGo_enum (s := { s with heap := h', toks := tk + 1 }) ho fun h'' he' sb => ?_⟩
    have hT2 : h''.get? s.heap.objs.size = some { cls := .type "tuple", data := .seq #[.int i tk, x1] } := (sb.2 _ (Nat.ne_of_gt hel)).trans hT
    have new : ObjOk X.prog X.w (upd H s.heap.objs.size (.tup [.int (i : Nat), x])) h'' s.heap.objs.size (.tup [.int (i : Nat), x]) :=
      ⟨by show 2 ≤ sizeLine; decide, [.int i tk, x1], .cons ⟨_, rfl⟩ (.cons ru .nil), ⟨_, hT2, rfl, _, rfl⟩⟩
    have I1 : Inv X pins σ (upd H s.heap.objs.size (.tup [.int (i : Nat), x])) { s with heap := h'', toks := tk + 1 } :=
      I.turnedNew (ch := [e, it]) (fun b ob hb q => (sb.2 b (fun z => hb (by simp [z]))).trans (hk b ob (fun z => hb (by simp [z])) (fun z => hb (by simp [z])) q)) hf (Nat.le_refl _) new
    refine ⟨.ref s.heap.objs.size, _, I1, rfl, ⟨_, x, rfl, I.hok.fresh (Nat.le_refl _), rfl, fun ys hy => by rw [I.tuple_inj hy hq]; exact hx⟩, ⟨⟨x1, ?_⟩, st'.1.at fun o q => (sb.2 it (Ne.symm hne)).trans q, hne⟩, fun b hb => ?_⟩
    · have e1 : ((i + 1 : Nat) : Int) = (i : Int) + 1 := by omega
      rw [e1]; exact he'
    · have hb' : b < s.heap.objs.size := by
        have e' : b = e ∨ b = it := by simpa using hb
        rcases e' with z | z
        · rw [z]; exact hel
        · rw [z]; exact hil
      rw [upd_ne (Nat.ne_of_lt hb')]
      exact (hf b hb).1
  done := by
    intro X hP hw hK hc i pins s σ H E I hf st hg
    subst hP hw hK
    obtain ⟨⟨old, he⟩, hit, hne⟩ := st
    obtain ⟨xs, hq, hx⟩ := hg
    obtain ⟨its, rv, p, hz⟩ := I.tuple hq
    obtain ⟨f0, f1, f2, f3, f4, f5⟩ := hf it (by simp)
    have hh : X.A.in1.handled = none := I.ok.hd hc
    have D1 := Draws.tuple (prog := X.prog) (w := X.w) (A := X.A.in1) hh it a hai its.toArray
    have m1 : its.toArray.size = i := by have := rv.length; simp; omega
    refine wpAny_pyNext_enum_endD D1 he ⟨by rw [m1]; exact hit, p⟩ fun h' eb => ⟨rfl, I.turned (t' := s.toks) (fun b o hb q => eb b o hb q) f0 f1 f3 f4 f5⟩
  self := fun A i s Q E st h => let ⟨⟨_, he⟩, _⟩ := st; wpAny_pyIter_enum he h

theorem meets_enumerate_newB1 {v : Value} {o : Obj} {H : Heap → Prop} (B : Begins v o H) :
    Meets (Builtin.«enumerate.__new__» ⟨[.type "enumerate", v], []⟩) (fun _ R s => H s.heap ∧
      R (.ok (.ret (.ref (s.heap.push o).objs.size))) { s with heap := (s.heap.push o).push { cls := .type "enumerate", data := .fields #[.none, .bool false, .ref s.heap.objs.size, rawInt 0, .none, .none] } }) :=
  .of_wp fun prog w A R s h => by
    obtain ⟨hp, g, d, tk, os⟩ := s; obtain ⟨h1, h⟩ := h
    have hsub := sub_enumerate
    have q1 : ∀ {A' : Around} {E : Value → Shared → Prop} {Q : Value → Shared → Prop}, Q (.ref hp.objs.size) ⟨hp.push o, g, d, tk, os⟩ → wpAny (model prog w) A' (pyIter v) Q E ⟨hp, g, d, tk, os⟩ :=
      fun q => B.iter prog w _ _ ⟨hp, g, d, tk, os⟩ _ h1 q
    wp_walk using q1
    refine wpAny_stack_any fun st => wpAny_pure ?_
    split
    · rename_i c _ _ _ _ _
      cases (c == Value.type "enumerate")
      · wp_walk using q1
        exact ⟨_, rfl, h⟩
      · wp_walk using q1
        exact ⟨_, rfl, h⟩
    · wp_walk using q1
      exact ⟨_, rfl, h⟩
theorem enum_begins1 {prog : Program} {w : World} {A : Around} {E : Value → Shared → Prop} {s : Shared} {v : Value} {o : Obj} {H : Heap → Prop} {Q : Value → Shared → Prop} (B : Begins v o H) (h1 : H s.heap)
    (h : ∀ h', IsEnum h' (s.heap.objs.size + 1) s.heap.objs.size 0 .none → h'.get? s.heap.objs.size = some o → h'.objs.size = s.heap.objs.size + 2 →
      (∀ b o, s.heap.get? b = some o → h'.get? b = some o) → Q (.ref (s.heap.objs.size + 1)) { s with heap := h' }) :
    wpAny (model prog w) A (call (.type "enumerate") [v]) Q E s := by
  refine callType_new F.called_enumerate (by decide) (F.typeCall_enumerate_1 _) (F.newCall_enumerate_1 _) (fun obj => F.args_object_init_2 obj _) F.entry_enumerate_new
    (meets_enumerate_newB1 B) ⟨h1, ?_⟩
  have hz : (s.heap.push o).objs.size = s.heap.objs.size + 1 := Heap.size_push ..
  show _ ∧ _
  rw [hz]
  have he : IsEnum ((s.heap.push o).push { cls := .type "enumerate", data := .fields #[.none, .bool false, .ref s.heap.objs.size, rawInt 0, .none, .none] }) (s.heap.objs.size + 1) s.heap.objs.size 0 .none := by
    have := Heap.get?_push_size (s.heap.push o) (o := { cls := .type "enumerate", data := .fields #[.none, .bool false, .ref s.heap.objs.size, rawInt 0, .none, .none] }) rfl
    rw [hz] at this; exact this
  refine ⟨⟨_, he, rfl⟩, h _ he (Heap.get?_push_of_some _ (Heap.get?_push_size _ B.free)) (by rw [Heap.size_push, hz]) fun b o x => Heap.get?_push_of_some _ (Heap.get?_push_of_some _ x)⟩
def iEnumT (K : PySem.W.Frag) (ta : TA) : TI := fun σ H R => ta σ H fun vs H1 => ∃ a xs, vs = [.ref a] ∧ SqT K H1 a xs ∧ R (IteT K a) H1
theorem pi_enumT {X : Cx} {e : Expr} {ta : TA} {p pos tpos : Pos} {elts : List Expr} {kk : Nat} (hg : Gl X "enumerate") (hm : X.mg "enumerate" = none) (ha : PA X [e] ta) (hs : starEach [e] X.env = [(false, eval e X.env)] := by rfl) :
    PI X (.Tuple elts kk tpos) (.Call (.Name "enumerate" p) [e] [] pos) (iEnumT X.K ta) := by
  refine ⟨fun pins s σ H R I h => ?_⟩
  refine Call_ (ld_blt I hg hm boot_enumerate (PyProof.Rows.callWith_type1 (thn (ha.run pos pins s σ H _ I h) fun us s1 ⟨vs, H1, I1, r1, q1⟩ => ?_) hs rfl))
  obtain ⟨a, xs, ex, hq, q⟩ := q1
  subst ex
  cases r1 with
  | cons r rr =>
    cases rr
    cases r
    obtain ⟨its, rv, p', hz⟩ := I1.tuple hq
    have la : a < s1.heap.objs.size := p'.lt
    refine enum_begins1 (begins_tuple a its.toArray) p' fun h' he hit hsz hk => wpAny_pyIter_enum he ?_
    have I2 : Inv X pins σ H1 { s1 with heap := h' } := I1.kept (t' := s1.toks) hk
    refine ⟨s1.heap.objs.size + 1, [s1.heap.objs.size + 1, s1.heap.objs.size], _, _, H1, rfl, I2, turn_enumT a (s1.heap.objs.size + 1) s1.heap.objs.size (Nat.ne_of_lt la) (Nat.ne_of_gt (Nat.lt_succ_of_lt la)), ⟨⟨.none, he⟩, ⟨_, hit, rfl, rfl⟩, Nat.succ_ne_self _⟩, fun b hb => ?_, q⟩
    have e' : b = s1.heap.objs.size + 1 ∨ b = s1.heap.objs.size := by simpa using hb
    have hle : s1.heap.objs.size ≤ b := by
      rcases e' with z | z
      · rw [z]; exact Nat.le_add_right _ _
      · rw [z]; exact Nat.le_refl _
    exact I1.fpOk hle (I1.hok.fresh hle)
end Sw
namespace Sw
open PySem PySem.Spec PyProof.Rows L2 Evl
/-! ### more rules: sum of a tuple -/
section
variable {X : Cx}
def rSumT (K : PySem.W.Frag) : List V → Hp → VK → Prop := fun vs H Q => ∃ (a : Addr) (ns : List Int), vs = [V.ref a] ∧ SqT K H a (ns.map V.int) ∧ Q (.int ns.sum) H
theorem cr_sumT (hc : X.calm = true) : CallR X (.builtin "sum") (rSumT X.K) := by
  intro pins s σ H vs us Q I r h
  obtain ⟨a, ns, rfl, hs, q⟩ := h
  obtain ⟨its, rv, hl, _⟩ := I.tuple hs
  rw [Vals.ref1 r]
  obtain ⟨xs, e⟩ := rv.ints.allInts.items
  have hn : numsOf (intItems xs).toList = ns := by rw [← e]; exact rv.ints.numsOf
  rw [nums_intItems] at hn
  have hl' : s.heap.IsTuple a (intItems xs) := by rw [← e]; exact hl
  refine PySem.W.ktm_sumG (I.ok.hd hc) hl' fun h' tk t' hk => ⟨.int ns.sum, H, I.kept hk, ⟨t', ?_⟩, q⟩
  rw [preSum_eq, List.take_of_length_le (by simp), hn]
theorem ps_no {st : Stmt} : PS X st (fun _ _ _ => False) := ⟨fun _ _ _ _ _ _ h => h.elim⟩
end
/-! ### what they evaluate to -/
section
variable {K : PySem.W.Frag} {σ : L2.St} {H H' : Hp} {ta tb te tx : TE} {x y z v : V}
theorem ev_sumN {ns : List Int} (h : EvL ta σ H (ns.map V.int)) : Ev (tCB (rSum K) (tCons ta tNil)) σ H (.int ns.sum) := fun H1 e Q q =>
  h H1 e _ fun p H2 _ e2 h2 => ⟨p, ns, rfl, sq_of h2, q H2 e2⟩
theorem ev_sumL {a : Addr} {ns : List Int} (h : Ev ta σ H (.ref a)) (hx : SqL K H a (ns.map V.int)) : Ev (tCB (rSum K) (tCons ta tNil)) σ H (.int ns.sum) := fun H1 e Q q =>
  h H1 e _ fun H2 e2 => ⟨a, ns, rfl, ex_l (e.trans e2) hx, q H2 e2⟩
theorem ev_sumT {a : Addr} {ns : List Int} (h : Ev ta σ H (.ref a)) (hx : SqT K H a (ns.map V.int)) : Ev (tCB (rSumT K) (tCons ta tNil)) σ H (.int ns.sum) := fun H1 e Q q =>
  h H1 e _ fun H2 e2 => ⟨a, ns, rfl, ex_t (e.trans e2) hx, q H2 e2⟩
theorem ev_lenT {a : Addr} {xs : List V} (h : Ev ta σ H (.ref a)) (hx : SqT K H a xs) : Ev (tCB (rLenS K) (tCons ta tNil)) σ H (.int (xs.length : Int)) := fun H1 e Q q =>
  h H1 e _ fun H2 e2 => ⟨a, xs, rfl, .inr (ex_t (e.trans e2) hx), q H2 e2⟩
theorem given_all (n : Nat) (v : Nat → V) : given n (fun _ => true) v = (List.range n).map v := by
  unfold given
  rw [List.filter_eq_self.mpr (fun _ _ => rfl)]
theorem et_yes : EvT tYes σ H true := fun H1 _ _ q => q H1 (Ex.refl H1)
/-- the comprehension over range(n), no test -/
theorem el_lcR {ta : TA} {j : Nat} {vs : List Nat} {n : Int} (v : Nat → V) (h : EvA ta σ H [.int n]) (hn : 0 ≤ n ∧ n ≤ 40000) (hw : ∀ x, wipe ((wipe σ vs).set j (some x)) vs = wipe σ vs)
    (he : ∀ (i : Nat) H1, Ex H H1 → (i : Int) < n → Ev te ((wipe σ vs).set j (some (.int (i : Int)))) H1 (v i)) :
    EvL (tLc (iRng1 ta) (gName j) tYes te vs) σ H ((List.range n.toNat).map v) := by
  rw [← given_all]
  exact el_lcR1 (fun _ => true) v h hn hw (fun _ _ _ _ => et_yes) (fun i H1 e hi _ => he i H1 e hi)
theorem atI_at {α : Type} {xs : List α} {i : Int} {d : α} (h0 : 0 ≤ i) (h1 : i < xs.length) : atI xs i = some (xs.getD i.toNat d) := by
  obtain ⟨j, rfl⟩ : ∃ j : Nat, i = (j : Int) := ⟨i.toNat, by omega⟩
  have hj : j < xs.length := by omega
  rw [atI_nat (v := xs[j]) (by simp [hj]), Int.toNat_natCast]
  simp [List.getD, hj]
end
end Sw
namespace Sw
open PySem PySem.Spec PyProof.Rows L2 Evl
/-! ### instances, methods, calls -/
section
variable {K : PySem.W.Frag} {σ : L2.St} {H H' : Hp} {ta tb te tx : TE} {x y z v : V} {a C dx : Addr} {fs : List (Str × V)} {f m : Str}
/-- the instance at a has the field -/
def Fl (H : Hp) (a C : Addr) (f : Str) (v : V) : Prop := ∃ dx fs, H a = some (.ins C dx fs) ∧ fs.lookup f = some v
/-- the instance at a has no such field -/
def NoF (H : Hp) (a C : Addr) (f : Str) : Prop := ∃ dx fs, H a = some (.ins C dx fs) ∧ fs.lookup f = none
theorem Fl.mono (e : Ex H H') (h : Fl H a C f v) : Fl H' a C f v := let ⟨dx, fs, h1, h2⟩ := h; ⟨dx, fs, e _ _ h1, h2⟩
theorem NoF.mono (e : Ex H H') (h : NoF H a C f) : NoF H' a C f := let ⟨dx, fs, h1, h2⟩ := h; ⟨dx, fs, e _ _ h1, h2⟩
theorem ev_fld (h : Ev ta σ H (.ref a)) (hf : Fl H a C f v) (c : Cls K C) (n : NoAttr K C f) : Ev (tFld K ta f) σ H v := fun H1 e Q q =>
  h H1 e _ fun H2 e2 => let ⟨dx, fs, h1, h2⟩ := hf; ⟨a, C, dx, fs, v, rfl, e2 _ _ (e _ _ h1), c, n, h2, q H2 e2⟩
/-- what a method's promise gives -/
theorem ev_meth {sp : Sp} {dvs vs : List V} {E : XK} {t : TA} (h : Ev ta σ H (.ref a)) (nf : NoF H a C m) (hv : EvA t σ H vs) (hs : SpV sp (.ref a :: (vs ++ dvs)) H z) : Ev (tMeth C m sp dvs E ta t) σ H z := fun H1 e Q q =>
  h H1 e _ fun H2 e2 => let ⟨dx, fs, h1, h2⟩ := nf; ⟨a, dx, fs, rfl, e2 _ _ (e _ _ h1), h2, hv H2 (e.trans e2) _ fun H3 e3 => hs H3 ((e.trans e2).trans e3) Q (fun H4 e4 => q H4 ((e2.trans e3).trans e4)) E⟩
theorem el_meth {sp : Sp} {dvs vs xs : List V} {E : XK} {t : TA} (h : Ev ta σ H (.ref a)) (nf : NoF H a C m) (hv : EvA t σ H vs) (hs : SpL sp (.ref a :: (vs ++ dvs)) H xs) : EvL (tMeth C m sp dvs E ta t) σ H xs := fun H1 e Q q =>
  h H1 e _ fun H2 e2 => let ⟨dx, fs, h1, h2⟩ := nf; ⟨a, dx, fs, rfl, e2 _ _ (e _ _ h1), h2, hv H2 (e.trans e2) _ fun H3 e3 => hs H3 ((e.trans e2).trans e3) Q (fun p H4 hp e4 h4 => q p H4 (fresh_back (e2.trans e3) hp) ((e2.trans e3).trans e4) h4) E⟩
/-- a new tuple -/
def SpU (sp : Sp) (vs : List V) (H : Hp) (xs : List V) : Prop := ∀ H1, Ex H H1 → ∀ Q : VK, (∀ p H2, H1 p = none → Ex H1 H2 → H2 p = some (.tup xs) → Q (.ref p) H2) → ∀ E : XK, sp vs H1 Q E
theorem eu_meth {sp : Sp} {dvs vs xs : List V} {E : XK} {t : TA} (h : Ev ta σ H (.ref a)) (nf : NoF H a C m) (hv : EvA t σ H vs) (hs : SpU sp (.ref a :: (vs ++ dvs)) H xs) : EvU (tMeth C m sp dvs E ta t) σ H xs := fun H1 e Q q =>
  h H1 e _ fun H2 e2 => let ⟨dx, fs, h1, h2⟩ := nf; ⟨a, dx, fs, rfl, e2 _ _ (e _ _ h1), h2, hv H2 (e.trans e2) _ fun H3 e3 => hs H3 ((e.trans e2).trans e3) Q (fun p H4 hp e4 h4 => q p H4 (fresh_back (e2.trans e3) hp) ((e2.trans e3).trans e4) h4) E⟩
theorem eu_call {sp : Sp} {dvs vs xs : List V} {E : XK} {ta : TA} (h : EvA ta σ H vs) (hs : SpU sp (vs ++ dvs) H xs) : EvU (tCall sp dvs E ta) σ H xs := fun H1 e Q q =>
  h H1 e _ fun H2 e2 => hs H2 (e.trans e2) Q (fun p H3 hp e3 h3 => q p H3 (fresh_back e2 hp) (e2.trans e3) h3) E
/-- an item of what a call hands back -/
theorem ev_ixNL {xs : List V} {i : Int} (h : EvL ta σ H xs) (hb : Ev tb σ H (.int i)) (ha : atI xs i = some v) : Ev (tOp (rIxL K) ta tb) σ H v := ev_opL1 h (fun H1 e => hb.mono e) fun p H1 hp _ => rv_ixL (K := K) (sq_of hp) ha
theorem ev_ixNU {xs : List V} {i : Int} (h : EvU ta σ H xs) (hb : Ev tb σ H (.int i)) (ha : atI xs i = some v) : Ev (tOp (rIxT K) ta tb) σ H v := fun H1 e Q q =>
  h H1 e _ fun p H2 _ e2 hp => hb H2 (e.trans e2) _ fun H3 e3 => rv_ixT (K := K) (st_of (e3 p _ hp)) ha H3 (Ex.refl H3) Q fun H4 e4 => q H4 ((e2.trans e3).trans e4)
theorem ev_ixL {p : Addr} {xs : List V} {i : Int} (h : Ev ta σ H (.ref p)) (hx : SqL K H p xs) (hb : Ev tb σ H (.int i)) (ha : atI xs i = some v) : Ev (tOp (rIxL K) ta tb) σ H v := ev_op h hb (rv_ixL hx ha)
theorem ev_ixT {p : Addr} {xs : List V} {i : Int} (h : Ev ta σ H (.ref p)) (hx : SqT K H p xs) (hb : Ev tb σ H (.int i)) (ha : atI xs i = some v) : Ev (tOp (rIxT K) ta tb) σ H v := ev_op h hb (rv_ixT hx ha)
/-- the smaller, the greater of two -/
def rMn : List V → Hp → VK → Prop := fun xs H Q => ∃ i j, xs = [.int i, .int j] ∧ Q (.int (if j < i then j else i)) H
theorem ev_min2 {i j : Int} (ha : Ev ta σ H (.int i)) (hb : Ev tb σ H (.int j)) : Ev (tCB rMn (tCons ta (tCons tb tNil))) σ H (.int (min i j)) := fun H1 e Q q =>
  ha H1 e _ fun H2 e2 => hb H2 (e.trans e2) _ fun H3 e3 => ⟨i, j, rfl, by
    have z : (if j < i then j else i) = min i j := by omega
    rw [z]; exact q H3 (e2.trans e3)⟩
theorem ev_maxi {i j : Int} (ha : Ev ta σ H (.int i)) (hb : Ev tb σ H (.int j)) : Ev (tCB rMax2 (tCons ta (tCons tb tNil))) σ H (.int (max i j)) := by
  have z : (if j > i then j else i) = max i j := by omega
  rw [← z]; exact ev_max2 ha hb
/-- divmod: a new pair -/
def rDm : List V → Hp → VK → Prop := fun xs H Q => ∃ i j, xs = [.int i, .int j] ∧ CDiv i j ∧ ∀ p, H p = none → Q (.ref p) (upd H p (.tup [.int (i / j), .int (i % j)]))
theorem eu_dm {i j : Int} (ha : Ev ta σ H (.int i)) (hb : Ev tb σ H (.int j)) (hc : CDiv i j) : EvU (tCB rDm (tCons ta (tCons tb tNil))) σ H [.int (i / j), .int (i % j)] := fun H1 e Q q =>
  ha H1 e _ fun H2 e2 => hb H2 (e.trans e2) _ fun H3 e3 => ⟨i, j, rfl, hc, fun p hp => q p _ (fresh_back (e2.trans e3) hp) ((e2.trans e3).trans (Ex.new hp)) upd_same⟩
theorem eu_tup {t : TA} {xs : List V} (h : EvA t σ H xs) (hz : xs.length ≤ 100000) : EvU (tTup t) σ H xs := fun H1 e Q q =>
  h H1 e _ fun H2 e2 => ⟨sz_of hz, fun p hp => q p _ (fresh_back e2 hp) (e2.trans (Ex.new hp)) upd_same⟩
theorem el_lst {t : TA} {xs : List V} (h : EvA t σ H xs) (hz : xs.length ≤ 100000) : EvL (tLst t) σ H xs := fun H1 e Q q =>
  h H1 e _ fun H2 e2 => ⟨sz_of hz, fun p hp => q p _ (fresh_back e2 hp) (e2.trans (Ex.new hp)) upd_same⟩
theorem Ev.int_eq {i j : Int} (h : Ev te σ H (.int i)) (e : i = j) : Ev te σ H (.int j) := e ▸ h
/-- a, b = a new pair -/
theorem s_pair {i j : Nat} {D : Ends} {x y : V} (h : EvU te σ H [x, y]) (k : ∀ H1, Ex H H1 → D.nx ((σ.set i (some x)).set j (some y)) H1) : tAsg te (gTup K 2 (gCons (gName i) (gCons (gName j) gNil))) D σ H :=
  h H (Ex.refl H) _ fun p H1 _ e hp => ⟨p, [x, y], rfl, st_of hp, rfl, x, [y], rfl, y, [], rfl, rfl, k H1 e⟩
theorem q_pair {i j : Nat} {D : Ends} {x y : V} {tz : TS} (h : EvU te σ H [x, y]) (k : ∀ H1, Ex H H1 → tz D ((σ.set i (some x)).set j (some y)) H1) : tSeq (tAsg te (gTup K 2 (gCons (gName i) (gCons (gName j) gNil)))) tz D σ H :=
  s_pair (D := { D with nx := tz D }) h k
end
/-! ### the rules with the written part named -/
section
variable {X : Cx}
theorem pe_fldK (K : PySem.W.Frag) {e : Expr} {f : Str} {pos : Pos} {ta : TE} (hK : X.K = K) (he : PE X e ta) (hb : attributeBase e f X.env (eval e X.env) = eval e X.env) : PE X (.Attribute e f pos) (tFld K ta f) := by
  subst hK; exact pe_fld he hb
theorem pi_listK (K : PySem.W.Frag) {tg l : Expr} {tl : TE} (hK : X.K = K) (hl : PE X l tl) : PI X tg l (iList K tl) := by
  subst hK; exact pi_list hl
theorem pi_tupK (K : PySem.W.Frag) {tg l : Expr} {tl : TE} (hK : X.K = K) (hl : PE X l tl) : PI X tg l (iTup K tl) := by
  subst hK; exact pi_tup hl
theorem pi_enumTK (K : PySem.W.Frag) {e : Expr} {ta : TA} {p pos tpos : Pos} {elts : List Expr} {kk : Nat} (hK : X.K = K) (hg : Gl X "enumerate") (hm : X.mg "enumerate" = none) (ha : PA X [e] ta) (hs : starEach [e] X.env = [(false, eval e X.env)] := by rfl) :
    PI X (.Tuple elts kk tpos) (.Call (.Name "enumerate" p) [e] [] pos) (iEnumT K ta) := by
  subst hK; exact pi_enumT hg hm ha hs
theorem pg_tupK (K : PySem.W.Frag) {es : List Expr} {k : Nat} {t : TGs} {n : Nat} {pos : Pos} (hK : X.K = K) (hc : X.calm = true) (h : PGs X es t)
    (hn : (assignEach es X.env).length = n := by rfl) (hst : (assignEach es X.env).findIdx? (·.1) = none := by rfl) : PG X (.Tuple es k pos) (gTup K n t) := by
  subst hK; exact pg_tup hc h hn hst
end
/-! ### the promises' shapes -/
def RetU (xs : List V) (H : Hp) (Q : VK) : Prop := ∀ p H2, H p = none → Ex H H2 → H2 p = some (.tup xs) → Q (.ref p) H2
end Sw
namespace Sw
open PySem PySem.Spec PyProof.Rows L2 Evl
section
variable {K : PySem.W.Frag} {σ : L2.St} {H H' : Hp} {ta tb te tx : TE} {x y z v : V} {a C dx : Addr} {fs : List (Str × V)} {f m : Str} {D : Ends} {tz : TS}
/-- o.f = e -/
theorem q_fld (h : Ev te σ H v) (ho : ∀ H1, Ex H H1 → Ev ta σ H1 (.ref a)) (hx : H a = some (.ins C dx fs)) (c : Cls K C) (n : NoAttr K C f) (hl : fs.length < 1000) (k : ∀ H1, Ex H H1 → tz D σ (upd H1 a (.ins C dx (putF f v fs)))) : tSeq (sFld K ta te f) tz D σ H :=
  h H (Ex.refl H) _ fun H1 e1 => ho H1 e1 H1 (Ex.refl H1) _ fun H2 e2 => ⟨a, C, dx, fs, rfl, e2 _ _ (e1 _ _ hx), c, n, hl, k H2 (e1.trans e2)⟩
theorem s_fld (h : Ev te σ H v) (ho : ∀ H1, Ex H H1 → Ev ta σ H1 (.ref a)) (hx : H a = some (.ins C dx fs)) (c : Cls K C) (n : NoAttr K C f) (hl : fs.length < 1000) (k : ∀ H1, Ex H H1 → D.nx σ (upd H1 a (.ins C dx (putF f v fs)))) : sFld K ta te f D σ H :=
  h H (Ex.refl H) _ fun H1 e1 => ho H1 e1 H1 (Ex.refl H1) _ fun H2 e2 => ⟨a, C, dx, fs, rfl, e2 _ _ (e1 _ _ hx), c, n, hl, k H2 (e1.trans e2)⟩
theorem q_fldL {xs : List V} (h : EvL te σ H xs) (ho : ∀ H1, Ex H H1 → Ev ta σ H1 (.ref a)) (hx : H a = some (.ins C dx fs)) (c : Cls K C) (n : NoAttr K C f) (hl : fs.length < 1000) (k : ∀ p H1, H p = none → Ex H H1 → H1 p = some (.lst xs) → tz D σ (upd H1 a (.ins C dx (putF f (.ref p) fs)))) : tSeq (sFld K ta te f) tz D σ H :=
  h H (Ex.refl H) _ fun p H1 hp e1 h1 => ho H1 e1 H1 (Ex.refl H1) _ fun H2 e2 => ⟨a, C, dx, fs, rfl, e2 _ _ (e1 _ _ hx), c, n, hl, k p H2 hp (e1.trans e2) (e2 _ _ h1)⟩
theorem s_fldL {xs : List V} (h : EvL te σ H xs) (ho : ∀ H1, Ex H H1 → Ev ta σ H1 (.ref a)) (hx : H a = some (.ins C dx fs)) (c : Cls K C) (n : NoAttr K C f) (hl : fs.length < 1000) (k : ∀ p H1, H p = none → Ex H H1 → H1 p = some (.lst xs) → D.nx σ (upd H1 a (.ins C dx (putF f (.ref p) fs)))) : sFld K ta te f D σ H :=
  h H (Ex.refl H) _ fun p H1 hp e1 h1 => ho H1 e1 H1 (Ex.refl H1) _ fun H2 e2 => ⟨a, C, dx, fs, rfl, e2 _ _ (e1 _ _ hx), c, n, hl, k p H2 hp (e1.trans e2) (e2 _ _ h1)⟩
theorem s_fldU {xs : List V} (h : EvU te σ H xs) (ho : ∀ H1, Ex H H1 → Ev ta σ H1 (.ref a)) (hx : H a = some (.ins C dx fs)) (c : Cls K C) (n : NoAttr K C f) (hl : fs.length < 1000) (k : ∀ p H1, H p = none → Ex H H1 → H1 p = some (.tup xs) → D.nx σ (upd H1 a (.ins C dx (putF f (.ref p) fs)))) : sFld K ta te f D σ H :=
  h H (Ex.refl H) _ fun p H1 hp e1 h1 => ho H1 e1 H1 (Ex.refl H1) _ fun H2 e2 => ⟨a, C, dx, fs, rfl, e2 _ _ (e1 _ _ hx), c, n, hl, k p H2 hp (e1.trans e2) (e2 _ _ h1)⟩
/-- the heap, the one object at x forgotten -/
def wo (H : Hp) (x : Addr) : Hp := fun b => if b = x then none else H b
theorem wo_self {H : Hp} {x : Addr} : wo H x x = none := by unfold wo; rw [if_pos rfl]
theorem wo_ne {H : Hp} {x b : Addr} (h : b ≠ x) : wo H x b = H b := by unfold wo; rw [if_neg h]
theorem wo_ex {H : Hp} {x : Addr} : Ex (wo H x) H := fun b o h => by
  by_cases e : b = x
  · rw [e, wo_self] at h; cases h
  · rwa [wo_ne e] at h
theorem wo_t {H : Hp} {x a : Addr} {xs : List V} {o : HO} (hx : H x = some o) (ho : ∀ u v, o ≠ .frz u v) (hn : ∀ ys, o ≠ .tup ys) (h : SqT K H a xs) : SqT K (wo H x) a xs := by
  rcases h with (h | ⟨u, h⟩) | h
  · refine .inl (.inl ?_)
    rw [wo_ne]
    · exact h
    · intro e; rw [e, hx] at h; exact hn xs (Option.some.inj h)
  · refine .inl (.inr ⟨u, ?_⟩)
    rw [wo_ne]
    · exact h
    · intro e; rw [e, hx] at h; exact ho u _ (Option.some.inj h)
  · exact .inr h
end
end Sw
namespace Sw
open PySem PySem.Spec PyProof.Rows L2 Evl
/-! ### walks of three, and of a tuple's items with their numbers -/
section
variable {K : PySem.W.Frag} {σ : L2.St} {H H' : Hp} {ta tb te tx tl : TE} {x y z v : V} {a b c : Addr} {xs ys zs : List V} {n : Nat}
def YTrip (xs ys zs : List V) : Nat → Hp → V → Hp → Prop := fun i H v H' => ∃ T x y z, v = .ref T ∧ H T = none ∧ H' = upd H T (.tup [x, y, z]) ∧ xs[i]? = some x ∧ ys[i]? = some y ∧ zs[i]? = some z
theorem walk_zip3 (lx : xs.length = n) (ly : ys.length = n) (lz : zs.length = n) : Walk (Itz3 K a b c) n (fun H => SqT K H a xs ∧ SqT K H b ys ∧ SqL K H c zs) (YTrip xs ys zs) := by
  refine ⟨fun i _ hi q => ⟨xs, ys, zs, xs[i]'(by omega), ys[i]'(by omega), zs[i]'(by omega), q.1, q.2.1, q.2.2, by simp, by simp, by simp⟩, fun _ q => ⟨xs, ys, zs, q.1, q.2.1, q.2.2, lx, ly, lz⟩, fun i H v H' _ q h => ?_⟩
  obtain ⟨T, x, y, z, h1, h2, h3, h4, h5, h6⟩ := h
  exact ⟨T, x, y, z, h1, h2, h3, h4 xs q.1, h5 ys q.2.1, h6 zs q.2.2⟩
theorem walk_enumT : Walk (IteT K a) xs.length (fun H => SqT K H a xs) (YPair (fun i => some (.int (i : Nat))) (fun i => xs[i]?)) := by
  refine ⟨fun i _ hi q => ⟨xs, xs[i], q, by simp⟩, fun _ q => ⟨xs, q, rfl⟩, fun i H v H' _ q h => ?_⟩
  obtain ⟨T, x, h1, h2, h3, h4⟩ := h
  exact ⟨T, .int (i : Nat), x, h1, h2, h3, rfl, h4 xs q⟩
variable {D : Ends} {tu tz : TS}
theorem q_forZ3 {tt : TA} {j1 j2 j3 : Nat} {G : Hp} (h : EvA tt σ H [.ref a, .ref b, .ref c]) (eG : Ex G H) (hx : SqT K G a xs) (hy : SqT K G b ys) (hz : SqL K G c zs) (lx : xs.length = n) (ly : ys.length = n) (lz : zs.length = n)
    (Pv : Nat → L2.St → Hp → Prop) (h0 : ∀ H1, Ex H H1 → Pv 0 σ H1) (hG : ∀ i σ' H', i ≤ n → Pv i σ' H' → Ex G H')
    (hs : ∀ i x y z σ' H', xs[i]? = some x → ys[i]? = some y → zs[i]? = some z → Pv i σ' H' → ∀ H2, Ex H' H2 → tu { D with nx := Pv (i + 1), ct := Pv (i + 1), bk := tz D } (((σ'.set j1 (some x)).set j2 (some y)).set j3 (some z)) H2)
    (hd : ∀ σ' H', Pv n σ' H' → tz D σ' H') : tSeq (tFor (iZip3 K tt) (gTup K 3 (gCons (gName j1) (gCons (gName j2) (gCons (gName j3) gNil)))) tu) tz D σ H :=
  h H (Ex.refl H) _ fun H1 e1 => ⟨a, b, c, xs, ys, zs, rfl, ex_t (eG.trans e1) hx, ex_t (eG.trans e1) hy, ex_l (eG.trans e1) hz,
    for_it (walk_zip3 lx ly lz) Pv (h0 H1 e1) (fun i σ' H' hi p => ⟨ex_t (hG i σ' H' hi p) hx, ex_t (hG i σ' H' hi p) hy, ex_l (hG i σ' H' hi p) hz⟩)
      (fun i v σ' H' H2 hi p q => by
        obtain ⟨T, x, y, z, rfl, hT, rfl, q1, q2, q3⟩ := q
        exact ⟨T, [x, y, z], rfl, st_of upd_same, rfl, x, [y, z], rfl, y, [z], rfl, z, [], rfl, rfl, hs i x y z σ' H' q1 q2 q3 p _ (Ex.new hT)⟩) hd⟩
/-- for i, x in enumerate(t), t a tuple -/
theorem s_forEnT {tt : TA} {j1 j2 : Nat} (h : EvA tt σ H [.ref a]) (hx : SqT K H a xs)
    (Pv : Nat → L2.St → Hp → Prop) (h0 : ∀ H1, Ex H H1 → Pv 0 σ H1) (hG : ∀ i σ' H', i ≤ xs.length → Pv i σ' H' → Ex H H')
    (hs : ∀ i x σ' H', xs[i]? = some x → Pv i σ' H' → ∀ H2, Ex H' H2 → tu { D with nx := Pv (i + 1), ct := Pv (i + 1), bk := D.nx } ((σ'.set j1 (some (.int (i : Nat)))).set j2 (some x)) H2)
    (hd : ∀ σ' H', Pv xs.length σ' H' → D.nx σ' H') : tFor (iEnumT K tt) (gTup K 2 (gCons (gName j1) (gCons (gName j2) gNil))) tu D σ H :=
  h H (Ex.refl H) _ fun H1 e1 => ⟨a, xs, rfl, ex_t e1 hx,
    for_it walk_enumT Pv (h0 H1 e1) (fun i σ' H' hi p => ex_t (hG i σ' H' hi p) hx)
      (fun i v σ' H' H2 hi p q => by
        obtain ⟨T, x, y, rfl, hT, rfl, q1, q2⟩ := q
        cases q1
        exact ⟨T, [.int (i : Nat), y], rfl, st_of upd_same, rfl, .int (i : Nat), [y], rfl, y, [], rfl, rfl, hs i y σ' H' q2 p _ (Ex.new hT)⟩) hd⟩
/-- [e for i, x in enumerate(t)] -/
theorem el_lcEnT {tt : TA} {j1 j2 : Nat} {vs : List Nat} (v : Nat → V) (h : EvA tt σ H [.ref a]) (hx : SqT K H a xs) (hz : xs.length ≤ 40000)
    (hw : ∀ x y, wipe (((wipe σ vs).set j1 (some x)).set j2 (some y)) vs = wipe σ vs)
    (he : ∀ (i : Nat) (x : V) H1, Ex H H1 → xs[i]? = some x → Ev te (((wipe σ vs).set j1 (some (.int (i : Nat)))).set j2 (some x)) H1 (v i)) :
    EvL (tLc (iEnumT K tt) (gTup K 2 (gCons (gName j1) (gCons (gName j2) gNil))) tYes te vs) σ H ((List.range xs.length).map v) := fun H0 e0 Q q =>
  h H0 e0 _ fun H1 e1 => ⟨a, xs, rfl, ex_t (e0.trans e1) hx, fun Dl hD => by
    rw [← given_all] at q
    refine lc_it (walk_enumT (xs := xs)) (Cw H1 (fun _ => true) v Dl) ⟨hD, Ex.new hD, upd_same⟩ (fun i H' _ p => ex_t ((e0.trans e1).trans p.2.1) hx) (fun i w H' H2 hi p y => ?_) (fun H' p => q Dl H' (fresh_back e1 p.1) (e1.trans p.2.1) p.2.2)
    obtain ⟨T, x, y, rfl, hT, rfl, q1, q2⟩ := y
    cases q1
    have p2 : Cw H1 (fun _ => true) v Dl i (upd H' T (.tup [.int (i : Nat), y])) := ⟨p.1, p.2.1.trans (Ex.new hT), by rw [upd_ne (ne_of_none p.2.2 hT)]; exact p.2.2⟩
    refine ⟨T, [.int (i : Nat), y], rfl, st_of upd_same, rfl, .int (i : Nat), [y], rfl, y, [], rfl, rfl, hw _ _, ?_⟩
    exact cw_turn p2 (by omega) et_yes (fun _ => he i y H1 (e0.trans e1) q2)⟩
/-- some tuple, some list of these items -/
def EvW (K : PySem.W.Frag) (te : TE) (σ : L2.St) (H : Hp) (xs : List V) : Prop := ∀ H1, Ex H H1 → ∀ Q : VK, (∀ p H2, Ex H1 H2 → SqT K H2 p xs → Q (.ref p) H2) → te σ H1 Q
def EvM (K : PySem.W.Frag) (te : TE) (σ : L2.St) (H : Hp) (xs : List V) : Prop := ∀ H1, Ex H H1 → ∀ Q : VK, (∀ p H2, Ex H1 H2 → SqL K H2 p xs → Q (.ref p) H2) → te σ H1 Q
theorem EvU.w (h : EvU te σ H xs) : EvW K te σ H xs := fun H1 e Q q => h H1 e Q fun p H2 _ e2 hp => q p H2 e2 (st_of hp)
theorem EvL.m (h : EvL te σ H xs) : EvM K te σ H xs := fun H1 e Q q => h H1 e Q fun p H2 _ e2 hp => q p H2 e2 (sq_of hp)
theorem ew_of (h : Ev te σ H (.ref a)) (hx : SqT K H a xs) : EvW K te σ H xs := fun H1 e Q q => h H1 e Q fun H2 e2 => q a H2 e2 (ex_t (e.trans e2) hx)
theorem em_of (h : Ev te σ H (.ref a)) (hx : SqL K H a xs) : EvM K te σ H xs := fun H1 e Q q => h H1 e Q fun H2 e2 => q a H2 e2 (ex_l (e.trans e2) hx)
theorem ev_sumW {ns : List Int} (h : EvW K ta σ H (ns.map V.int)) : Ev (tCB (rSumT K) (tCons ta tNil)) σ H (.int ns.sum) := fun H1 e Q q =>
  h H1 e _ fun p H2 e2 h2 => ⟨p, ns, rfl, h2, q H2 e2⟩
theorem ev_sumM {ns : List Int} (h : EvM K ta σ H (ns.map V.int)) : Ev (tCB (rSum K) (tCons ta tNil)) σ H (.int ns.sum) := fun H1 e Q q =>
  h H1 e _ fun p H2 e2 h2 => ⟨p, ns, rfl, h2, q H2 e2⟩
/-- t[:k] -/
theorem ew_take {th : TE} {k : Nat} (h : EvW K te σ H xs) (hk : Ev th σ H (.int (k : Int))) : EvW K (tSl (rSlA K) te tNoPart (tPart th)) σ H (xs.take k) := fun H1 e Q q =>
  h H1 e _ fun p H2 e2 h2 => hk H2 (e.trans e2) _ fun H3 e3 => ⟨(k : Int), rfl, p, xs, rfl, ex_t e3 h2, fun w => by
      have hi : min k xs.length = xs.length := by rw [← HT.sIx_nat xs.length xs.length k]; exact w.2
      have t : xs.take k = xs := List.take_of_length_le (by omega)
      rw [t] at q
      exact q p H3 (e2.trans e3) (ex_t e3 h2), fun _ r hr => by
      refine q r _ ((e2.trans e3).trans (Ex.new hr)) (st_of ?_)
      rw [upd_same]
      unfold cutV
      rw [HT.sIx_none, HT.sIx_nat]
      simp⟩
/-- xs[:k] of a list -/
theorem el_take {th : TE} {k : Nat} (h : EvM K te σ H xs) (hk : Ev th σ H (.int (k : Int))) : EvL (tSl (rSlL K) te tNoPart (tPart th)) σ H (xs.take k) := fun H1 e Q q =>
  h H1 e _ fun p H2 e2 h2 => hk H2 (e.trans e2) _ fun H3 e3 => ⟨(k : Int), rfl, p, xs, rfl, ex_l e3 h2, fun r hr => by
      refine q r _ (fresh_back (e2.trans e3) hr) ((e2.trans e3).trans (Ex.new hr)) ?_
      rw [upd_same]
      unfold cutV
      rw [HT.sIx_none, HT.sIx_nat]
      simp⟩
end
end Sw
namespace Sw
open PySem PySem.Spec PyProof.Rows L2 Evl
/-! ### max of a tuple of numbers -/
section
variable {prog : Program} {w : World} {A : Around} {E : Value → Shared → Prop} {s : Shared} {t : Addr} {xs : Array (Int × Tok)}
theorem max_intTup {Q : Value → Shared → Prop} (hh : A.handled = none) (ht : s.heap.IsTuple t (intItems xs)) (hne : 0 < xs.size)
    (h : ∀ v h' tk, (intItems xs)[argBest (fun i j => decide (numAt xs i > numAt xs j)) (xs.size - 1)]? = some v → (∀ b o, s.heap.get? b = some o → h'.get? b = some o) → Q v { s with heap := h', toks := tk }) :
    wpAny (model prog w) A (call (.builtin "max") [.ref t]) Q E s := by
  obtain ⟨o, ho, _, _, _⟩ := id ht
  have hlt : t < s.heap.objs.size := Heap.lt_size ho
  have hne' : t ≠ s.heap.objs.size := Nat.ne_of_lt hlt
  refine call_max_walk (wpAny_pyIter_tuple ht ?_)
  refine ⟨_, _, _, _, _, _, _, rfl, Walks.tuple (A := A.in1) hh _ t hne' (intItems xs), ⟨⟨_, Heap.get?_push_size _ rfl, rfl, rfl⟩, ht.at fun o e => Heap.get?_push_of_some _ e⟩, fun b hb => ?_, by simpa [intItems] using hne, CmpOf.ints_gt (numAt xs) (fun _ _ => intItems_at), fun v h' tk hP hk => ?_⟩
  · show b < (s.heap.push _).objs.size
    rw [Heap.size_push]
    rcases List.mem_cons.mp hb with rfl | hb
    · exact Nat.lt_succ_self _
    · rw [List.mem_singleton.mp hb]; exact Nat.lt_succ_of_lt hlt
  · refine h v h' tk (by simpa [intItems] using hP) fun b o e => hk b o (fun hm => ?_) (Heap.get?_push_of_some _ e)
    exact absurd (List.mem_singleton.mp hm ▸ Heap.lt_size e) (Nat.lt_irrefl _)
end
section
variable {X : Cx}
def rMaxT (K : PySem.W.Frag) : List V → Hp → VK → Prop := fun vs H Q => ∃ (a : Addr) (ns : List Int), vs = [V.ref a] ∧ SqT K H a (ns.map V.int) ∧ 0 < ns.length ∧ ∀ m, m ∈ ns → (∀ y, y ∈ ns → y ≤ m) → Q (.int m) H
theorem cr_maxT (hc : X.calm = true) : CallR X (.builtin "max") (rMaxT X.K) := by
  intro pins s σ H vs us Q I r h
  obtain ⟨a, ns, rfl, hs, hne, q⟩ := h
  obtain ⟨its, rv, hl, _⟩ := I.tuple hs
  rw [Vals.ref1 r]
  obtain ⟨xs, e⟩ := rv.ints.allInts.items
  have hn : numsOf (intItems xs).toList = ns := by rw [← e]; exact rv.ints.numsOf
  rw [nums_intItems] at hn
  subst hn
  have hl' : s.heap.IsTuple a (intItems xs) := by rw [← e]; exact hl
  have hsz : 0 < xs.size := by simpa using hne
  refine max_intTup (I.ok.hd hc) hl' hsz fun v h' tk hv hk => ?_
  obtain ⟨t', rfl⟩ := intItems_at hv
  obtain ⟨h1, h2⟩ := argBest_gt (numAt xs) (xs.size - 1)
  refine ⟨.int _, H, I.kept hk, ⟨t', rfl⟩, q _ ?_ fun y hy => ?_⟩
  · rw [numAt_eq]; exact PySem.getD_mem (by rw [List.length_map, Array.length_toList]; omega)
  · obtain ⟨j, hj, rfl⟩ := mem_getD hy
    rw [List.length_map, Array.length_toList] at hj
    rw [← numAt_eq]; exact h2 j (by omega)
end
theorem ev_maxT {K : PySem.W.Frag} {σ : L2.St} {H : Hp} {ta : TE} {a : Addr} {ns : List Int} {Qm : Int → Prop} (h : Ev ta σ H (.ref a)) (hx : SqT K H a (ns.map V.int)) (h0 : 0 < ns.length) :
    ∀ H1, Ex H H1 → ∀ Q : VK, (∀ m H2, Ex H1 H2 → m ∈ ns → (∀ y ∈ ns, y ≤ m) → Q (.int m) H2) → tCB (rMaxT K) (tCons ta tNil) σ H1 Q := fun H1 e Q q =>
  h H1 e _ fun H2 e2 => ⟨a, ns, rfl, ex_t (e.trans e2) hx, h0, fun m hm hle => q m H2 e2 hm hle⟩
end Sw
namespace Sw
open PySem PySem.Spec PyProof.Rows L2 Evl
section
variable {K : PySem.W.Frag} {σ : L2.St} {H H' : Hp} {ta tb te tl : TE} {x y z v : V} {a b : Addr} {xs ys : List V}
theorem ev_isN (h : Ev ta σ H x) : Ev (tIsN ta) σ H (.bl (decide (x = .non))) := fun H1 e1 Q q => h H1 e1 _ fun H2 e2 => q H2 e2
theorem ev_eqNil (ha : EvL ta σ H xs) (hb : EvL tb σ H []) (hx : xs = []) : Ev (tOp (rEqD K) ta tb) σ H (.bl true) := ev_opLL ha hb fun p q H1 hp hq _ => fun H2 e2 Q k => by
  subst hx
  exact ⟨.list [], .list [], .lst (sq_of (e2 _ _ hp)) .nil, .lst (sq_of (e2 _ _ hq)) .nil, by decide, by decide, by
    have : PyData.eqv (.list []) (.list []) = true := by decide
    rw [this]; exact k H2 (Ex.refl _)⟩
theorem given_none {n : Nat} {f : Nat → Bool} {v : Nat → V} (h : ∀ i, i < n → f i = false) : given n f v = [] := by
  unfold given
  have : (List.range n).filter f = [] := List.filter_eq_nil_iff.mpr fun i hi => by rw [h i (List.mem_range.mp hi)]; decide
  rw [this]; rfl
/-- two new lists, joined -/
theorem el_catN (ha : EvL ta σ H xs) (hb : EvL tb σ H ys) (hz : xs.length + ys.length ≤ 100000) : EvL (tOp rCat ta tb) σ H (xs ++ ys) := fun H1 e Q q =>
  ha H1 e _ fun p H2 _ e2 hp => hb H2 (e.trans e2) _ fun r H3 _ e3 hr => ⟨p, r, xs, ys, rfl, rfl, e3 _ _ hp, hr, sz_of hz, fun t ht => q t _ (fresh_back (e2.trans e3) ht) ((e2.trans e3).trans (Ex.new ht)) upd_same⟩
theorem el_lcRb {t : TA} {j : Nat} {vs : List Nat} {lo n : Int} (v : Nat → V) (h : EvA t σ H [.int lo, .int n]) (hn : 0 ≤ lo ∧ lo ≤ 10000 ∧ 0 ≤ n ∧ n ≤ 10000) (hw : ∀ x, wipe ((wipe σ vs).set j (some x)) vs = wipe σ vs)
    (he : ∀ (i : Nat) H1, Ex H H1 → lo + (i : Int) < n → Ev te ((wipe σ vs).set j (some (.int (lo + (i : Int))))) H1 (v i)) : EvL (tLc (iRng2 t) (gName j) tYes te vs) σ H ((List.range (n - lo).toNat).map v) := fun H0 e Q q => h H0 e _ fun H1 e1 => by
  rw [← given_all] at q
  exact ⟨lo, n, rfl, ⟨by omega, by omega, by omega, by omega⟩, fun Dl hD =>
    lc_range (lo := lo) (n := (n - lo).toNat) (Cw H1 (fun _ => true) v Dl) ⟨hD, Ex.new hD, upd_same⟩ (fun i H' hi p => ⟨hw _, cw_turn p (by omega) et_yes (fun _ => he i H1 (e.trans e1) (by omega))⟩) (fun H' p => q Dl H' (fresh_back e1 p.1) (e1.trans p.2.1) p.2.2)⟩
end
end Sw
namespace Sw
open PySem PySem.Spec PyProof.Rows L2 Evl
/-- the heap, the objects of N forgotten -/
noncomputable def wn (H : Hp) (N : Addr → Prop) : Hp := fun b => @ite _ (N b) (Classical.propDecidable _) none (H b)
theorem wn_in {H : Hp} {N : Addr → Prop} {b : Addr} (h : N b) : wn H N b = none := by unfold wn; rw [if_pos h]
theorem wn_ni {H : Hp} {N : Addr → Prop} {b : Addr} (h : ¬ N b) : wn H N b = H b := by unfold wn; rw [if_neg h]
theorem wn_some {H : Hp} {N : Addr → Prop} {b : Addr} {o : HO} (h : wn H N b = some o) : ¬ N b ∧ H b = some o := by
  by_cases q : N b
  · rw [wn_in q] at h; cases h
  · rw [wn_ni q] at h; exact ⟨q, h⟩
theorem wn_ex {H : Hp} {N : Addr → Prop} : Ex (wn H N) H := fun _ _ h => (wn_some h).2
theorem wn_mono {H H' : Hp} {N : Addr → Prop} (e : Ex H H') : Ex (wn H N) (wn H' N) := fun b o h => by
  obtain ⟨q, h1⟩ := wn_some h
  rw [wn_ni q]; exact e b o h1
theorem wn_upd {H : Hp} {N : Addr → Prop} {x : Addr} {o : HO} (hx : N x) : Ex (wn H N) (wn (upd H x o) N) := fun b u h => by
  obtain ⟨q, h1⟩ := wn_some h
  have nb : b ≠ x := fun z => q (by rw [z]; exact hx)
  rw [wn_ni q, upd_ne nb]; exact h1
theorem wn_sub {H : Hp} {N M : Addr → Prop} (h : ∀ b, N b → M b) : Ex (wn H M) (wn H N) := fun b o q => by
  obtain ⟨q1, h1⟩ := wn_some q
  rw [wn_ni fun z => q1 (h b z)]; exact h1
theorem wn_t {K : PySem.W.Frag} {H : Hp} {N : Addr → Prop} {a : Addr} {xs : List V} (ha : ¬ N a) (h : SqT K H a xs) : SqT K (wn H N) a xs := by
  rcases h with (h | ⟨u, h⟩) | h
  · exact .inl (.inl (by rw [wn_ni ha]; exact h))
  · exact .inl (.inr ⟨u, by rw [wn_ni ha]; exact h⟩)
  · exact .inr h
def nx (x : Addr) (N : Addr → Prop) : Addr → Prop := fun b => b = x ∨ N b
theorem wn_tx {K : PySem.W.Frag} {H : Hp} {N : Addr → Prop} {x a C dx : Addr} {fs : List (Str × V)} {xs : List V} (hx : H x = some (.ins C dx fs)) (h : SqT K (wn H N) a xs) : SqT K (wn H (nx x N)) a xs := by
  have go : ∀ u, wn H N a = some u → (∀ C dx fs, u ≠ .ins C dx fs) → wn H (nx x N) a = some u := fun u hu hne => by
    obtain ⟨q, h1⟩ := wn_some hu
    rw [wn_ni]
    · exact h1
    · rintro (e | e)
      · rw [e, hx] at h1; exact hne _ _ _ (Option.some.inj h1).symm
      · exact q e
  rcases h with (h | ⟨u, h⟩) | h
  · exact .inl (.inl (go _ h (fun _ _ _ q => nomatch q)))
  · exact .inl (.inr ⟨u, go _ h (fun _ _ _ q => nomatch q)⟩)
  · exact .inr h
end Sw
namespace Sw
open PySem PySem.Spec PyProof.Rows L2 Evl LamX NdefX
/-! ### lambdas that capture names: their objects -/
structure LF where
  qual : Str
  params : Arguments
  body : Expr
  scope : Scope
  cl : List (Str × Addr)
  c : Addr
  dv : Value
abbrev LF.fd (F : LF) (pm ctv : Value) : FuncData := { PySem.W.kla_fn "<lambda>" F.qual F.params F.body F.scope F.cl pm (.ref F.c) ctv with defaults := F.dv }
abbrev LF.nf (F : LF) : NF := ⟨"<lambda>", F.qual, F.params, [], F.scope, F.cl, F.c⟩
def LamO (f : Addr) (F : LF) : HO := .ext fun h => ∃ (od : Option Addr) (sl : Array (Option Value)) (pm ctv : Value), h.get? f = some (⟨.type "function", od, .func (F.fd pm ctv), sl⟩ : Obj)
theorem lamO_at {P : Program} {w : World} {H : Hp} {h : Heap} {f : Addr} {F : LF} (hok : HOk P w H h) (e : H f = some (LamO f F)) : ∃ (od : Option Addr) (sl : Array (Option Value)) (pm ctv : Value), h.get? f = some (⟨.type "function", od, .func (F.fd pm ctv), sl⟩ : Obj) := (hok f _ e).1
theorem lamO_tbl {f : Addr} {F : LF} (ps : Array Value) : LamO f F ≠ .tbl ps := fun z => by unfold LamO at z; cases z
/-! ### the end of a function's making, whatever its defaults -/
section
variable {M : Model} {A : Around} {E Q : Value → Shared → Prop} {s : Shared} {nm ql : Str} {pr : Arguments} {bd : Expr} {sc : Scope} {en : Env} {cc TP : Addr} {ts : Array Value} {po : Pos} {ln : Nat} {mg : Str → Option Value} {cl : List (Str × Addr)} {dv : Value}
abbrev fnDv (ql : Str) (pr : Arguments) (bd : Expr) (sc : Scope) (cl : List (Str × Addr)) (nm : Str) (pm c ct dv : Value) : FuncData := { PySem.W.kla_fn nm ql pr bd sc cl pm c ct with defaults := dv }
theorem tail_hit {cv : Value} (a1 : closureFor sc en = pure cl) (a2 : en.globals = mainGlobals) (a3 : s.heap.Ns mainGlobals mg) (a4 : en.code = .ref cc) (a5 : PySem.W.CodeHd s.heap cc TP) (a6 : s.heap.get? TP = some (PySem.W.tabObj ts)) (a7 : TriplesOk ts.toList) (a8 : codeAmong po ts.toList = some cv) (a9 : s.heap.BuiltinsAt mg TP)
    (k : ∀ (ct : Value) (g : Heap) (n : Tok), (∀ b o, s.heap.get? b = some o → g.get? b = some o) → s.heap.objs.size ≤ g.objs.size → Q (.ref g.objs.size) { s with heap := g.push { cls := .type "function", data := .func (fnDv ql pr bd sc cl nm ((mg "__name__").getD .none) cv ct dv) }, toks := n }) :
    wpAny M A (makeTail nm ql pr (.expr bd) sc en dv .none none po ln) Q E s := by
  obtain ⟨u1, u2, e1, e2, e3, e4, e5, e6, e7, e8⟩ := a9
  unfold makeTail; rw [a1, a2]; apply wpAny_bind; apply wpAny_pure
  rcases cl with _ | ⟨q, r⟩
  · rw [if_pos (List.isEmpty_nil)]
    apply wpAny_bind; apply wpAny_pure
    exact wpAny_bind (wpAny_functionCode_hit a4 (a5.code a6 a7) a8 (wpAny_bind (wpAny_builtinsFor a3 e1 e2 e5 e6 e7 e8 (wpAny_bind (wpAny_nsGet a3 (wpAny_bind (wpAny_pure (wpAny_newObj_type (k .none s.heap s.toks (fun _ _ e => e) (Nat.le_refl _)) (by size_fits)))))))))
  · rw [if_neg (by simp)]
    refine wpAny_bind (wpAny_newTextTuple ?_)
    exact wpAny_bind (wpAny_functionCode_hit a4 ((a5.keeps fun b o e => Heap.get?_push_of_some _ e).code (Heap.get?_push_of_some _ a6) a7) a8 (wpAny_bind (wpAny_builtinsFor (a3.push _) e1 e2 (Heap.get?_push_of_some _ e5) e6 e7 e8 (wpAny_bind (wpAny_nsGet (a3.push _)
      (wpAny_bind (wpAny_pure (wpAny_newObj_type (k _ _ s.toks (fun b o e => Heap.get?_push_of_some _ e) (by rw [Heap.size_push]; omega)) (by size_fits)))))))))
theorem tail_new (a1 : closureFor sc en = pure cl) (a2 : en.globals = mainGlobals) (a3 : s.heap.Ns mainGlobals mg) (a4 : en.code = .ref cc) (a5 : PySem.W.CodeHd s.heap cc TP) (a6 : s.heap.get? TP = some (PySem.W.tabObj ts)) (a7 : TriplesOk ts.toList) (a8 : codeAmong po ts.toList = none) (a0 : mainGlobals ≠ TP) (a9 : s.heap.BuiltinsAt mg TP)
    (k : ∀ c' ct g n, Heap.ExtBut TP s.heap g → s.heap.objs.size ≤ c' → c' < g.objs.size → g.CodeRec (.ref c') ql → g.get? TP = some (PySem.W.tabObj (ts ++ #[rawInt po.line, rawInt po.col, .ref c'])) → Q (.ref g.objs.size) { s with heap := g.push { cls := .type "function", data := .func (fnDv ql pr bd sc cl nm ((mg "__name__").getD .none) (.ref c') ct dv) }, toks := n }) :
    wpAny M A (makeTail nm ql pr (.expr bd) sc en dv .none none po ln) Q E s := by
  obtain ⟨u1, u2, e1, e2, e3, e4, e5, e6, e7, e8⟩ := a9
  unfold makeTail; rw [a1, a2]; apply wpAny_bind; apply wpAny_pure
  rcases cl with _ | ⟨q, r⟩
  · rw [if_pos (List.isEmpty_nil)]
    apply wpAny_bind; apply wpAny_pure
    refine wpAny_bind (wpAny_functionCodeX a4 (a5.code a6 a7) (a5.tab a6) a8 fun c' g n x1 x2 x3 _ x4 x5 _ => ?_)
    have a3' := a3.extBut x1 a0
    exact wpAny_bind (wpAny_builtinsFor a3' e1 e2 (x1 _ _ e4 e5) e6 e7 e8 (wpAny_bind (wpAny_nsGet a3' (wpAny_bind (wpAny_pure (wpAny_newObj_type (k c' .none g n x1 x2 x3 x4 x5.2) (by size_fits)))))))
  · rw [if_neg (by simp)]
    refine wpAny_bind (wpAny_newTextTuple ?_)
    have kp := a5.keeps fun b o e => Heap.get?_push_of_some { cls := .type "tuple", data := .seq (((q :: r).mergeSort fun a b => a.1.cps.toList ≤ b.1.cps.toList).map (Value.ref ·.2)).toArray } e
    refine wpAny_bind (wpAny_functionCodeX a4 (kp.code (Heap.get?_push_of_some _ a6) a7) (kp.tab (Heap.get?_push_of_some _ a6)) a8 fun c' g n x1 x2 x3 _ x4 x5 _ => ?_)
    have a3' := (a3.push _).extBut x1 a0
    have x1' : Heap.ExtBut TP s.heap g := fun b o hb e => x1 b o hb (Heap.get?_push_of_some _ e)
    have x2' : s.heap.objs.size ≤ c' := Nat.le_trans (by rw [Heap.size_push]; omega) x2
    exact wpAny_bind (wpAny_builtinsFor a3' e1 e2 (x1' _ _ e4 e5) e6 e7 e8 (wpAny_bind (wpAny_nsGet a3' (wpAny_bind (wpAny_pure (wpAny_newObj_type (k c' _ g n x1' x2' x3 x4 x5.2) (by size_fits)))))))
end
section
variable {X : Cx} {pins : List (Addr × Obj)} {σ : L2.St} {H : Hp} {s : Shared}
theorem inv_lam {F : LF} {o : Obj} {t' : Nat} {pm ctv : Value} (I : Inv X pins σ H s) (ho : o = { cls := .type "function", data := .func (F.fd pm ctv) }) : Inv X pins σ (upd H s.heap.objs.size (LamO s.heap.objs.size F)) { s with heap := s.heap.push o, toks := t' } := by
  subst ho
  refine I.laid (fun b u e => Heap.get?_push_of_some _ e) (Nat.le_refl _) ?_
  have g : (s.heap.push ({ cls := .type "function", data := .func (F.fd pm ctv) } : Obj)).get? s.heap.objs.size = some { cls := .type "function", data := .func (F.fd pm ctv) } := Heap.get?_push_size _ rfl
  exact ⟨⟨_, _, pm, ctv, g⟩, ⟨_, g⟩, fun _ _ ⟨od, sl, p, t, z⟩ st => ⟨od, sl, p, t, st _ z⟩⟩
/-- a lambda is made; its object and its code object are known from then on -/
theorem lam_tail {T : List NTab} {nm : Nat → Nat → Str} {c P : Addr} {params : Arguments} {body : Expr} {scope : Scope} {pos : Pos} {dv : Value} {E Q : Value → Shared → Prop} (I : Inv X pins σ H s) (TB : TabB X.base X.mg c P) (hcode : X.env.code = .ref c) (hm : (P, nm) ∈ T)
    (hn : nm pos.line pos.col = X.env.qual ++ "<lambda>") (hu : ∀ p ∈ T, p.1 = P → p.2 = nm) (hT : TabsN T H) (hfree : ∀ y ∈ scope.names, y.2 = .free → ∃ c, X.env.cells.lookup y.1 = some c)
    (fin : ∀ (f c' : Addr) (H1 : Hp) (s' : Shared), Inv X pins σ H1 s' → ExtN H H1 → (∀ b, H1 b = Option.none → H b = Option.none) → TabsN T H1 → H f = none → H1 f = some (LamO f ⟨X.env.qual ++ "<lambda>", params, body, scope, cloFrom X.env.cells scope.names [], c', dv⟩) → H1 c' = some (CodeO c' (X.env.qual ++ "<lambda>")) → Q (.ref f) s') :
    wpAny (model X.prog X.w) X.A (makeTail "<lambda>" (X.env.qual ++ "<lambda>") params (.expr body) scope X.env dv .none none pos pos.line) Q E s := by
  obtain ⟨ps, hP, ht, ha⟩ := (show TabN H P nm from hT _ hm)
  have bP : s.heap.BuiltinsAt X.mg P := TB.bm.keeps I.bk
  have gP : s.heap.get? P = some { cls := .none, data := .fields ps } := I.hok P _ hP
  cases hc : codeAmong pos ps.toList with
  | some cv =>
    obtain ⟨c', ecv, hco⟩ := ha pos cv hc
    subst ecv; rw [hn] at hco
    refine tail_hit (mg := X.mg) (closure_ok hfree) I.ok.glob (I.mod.glob.keeps I.bk) hcode (TB.code.keeps I.bk) gP ht hc bP fun ctv h' tk hx hsz => ?_
    have I1 : Inv X pins σ H { s with heap := h', toks := tk } := I.kept hx
    have nF : H h'.objs.size = none := I1.hok.fresh (Nat.le_refl _)
    have I2 := inv_lam (F := ⟨X.env.qual ++ "<lambda>", params, body, scope, cloFrom X.env.cells scope.names [], c', dv⟩) (t' := tk) (pm := (X.mg "__name__").getD .none) (ctv := ctv) I1 rfl
    have k1 : ∀ b o, H b = some o → upd H h'.objs.size (LamO h'.objs.size ⟨X.env.qual ++ "<lambda>", params, body, scope, cloFrom X.env.cells scope.names [], c', dv⟩) b = some o := fun b o e => (upd_ne (ne_of_none e nF)).trans e
    exact fin h'.objs.size c' _ _ I2 (fun b o e _ => k1 b o e) (fun b e => upd_none e) (hT.ext k1) nF upd_same (k1 _ _ hco)
  | none =>
    refine tail_new (mg := X.mg) (closure_ok hfree) I.ok.glob (I.mod.glob.keeps I.bk) hcode (TB.code.keeps I.bk) gP ht hc TB.gP bP fun c' ctv h' tk hx hge hlt hrec htb => ?_
    obtain ⟨c2, oc, vs, t, e2, hoc, hd, hv⟩ := hrec
    cases e2
    have nC : H c' = none := I.hok.fresh hge
    have I1 := inv_table (t' := tk) (more := #[rawInt pos.line, rawInt pos.col, .ref c']) (h' := h') I hP (fun b o hb e => hx b o hb e) htb hge ⟨oc, vs, t, hoc, hd, hv⟩
    have kE : ExtN H (upd (upd H P (.tbl (ps ++ #[rawInt pos.line, rawInt pos.col, .ref c']))) c' (CodeO c' (X.env.qual ++ "<lambda>"))) := fun b o e n => by
      rw [upd_ne (ne_of_none e nC), upd_ne (fun z => n ps (Option.some.inj (e.symm.trans (by rw [z]; exact hP))))]; exact e
    have aL : (ps ++ #[rawInt pos.line, rawInt pos.col, .ref c']).toList = ps.toList ++ [rawInt pos.line, rawInt pos.col, .ref c'] := by simp
    have T1 : TabsN T (upd (upd H P (.tbl (ps ++ #[rawInt pos.line, rawInt pos.col, .ref c']))) c' (CodeO c' (X.env.qual ++ "<lambda>"))) := fun p hp => by
      by_cases hb : p.1 = P
      · rw [hu p hp hb, hb]
        refine ⟨_, (upd_ne (ne_of_none hP nC)).trans upd_same, by rw [aL]; exact PySem.TriplesOk_snoc _ _ _ _ ht, fun p' cv hcv => ?_⟩
        rw [aL] at hcv
        rcases among_app2 _ ht hcv with z | ⟨z, z1, z2⟩
        · obtain ⟨c0, g1, g2⟩ := ha p' cv z; exact ⟨c0, g1, kE _ _ g2 codeO_ne⟩
        · exact ⟨c', z, by rw [← z1, ← z2, hn]; exact upd_same⟩
      · obtain ⟨ps', a1, a2, a3⟩ := hT p hp
        refine ⟨ps', by rw [upd_ne (ne_of_none a1 nC), upd_ne hb]; exact a1, a2, fun p' cv hcv => ?_⟩
        obtain ⟨c0, g1, g2⟩ := a3 p' cv hcv; exact ⟨c0, g1, kE _ _ g2 codeO_ne⟩
    have nF := I1.hok.fresh (Nat.le_refl _)
    have I2 := inv_lam (F := ⟨X.env.qual ++ "<lambda>", params, body, scope, cloFrom X.env.cells scope.names [], c', dv⟩) (t' := tk) (pm := (X.mg "__name__").getD .none) (ctv := ctv) I1 rfl
    exact fin h'.objs.size c' _ _ I2 (fun b o e n => (upd_ne (ne_of_none (kE b o e n) nF)).trans (kE b o e n)) (fun b e => upd_none (upd_none (upd_none e))) (T1.ext fun b o e => (upd_ne (ne_of_none e nF)).trans e)
      (I.hok.fresh (Nat.le_trans hge (Nat.le_of_lt hlt))) upd_same ((upd_ne (Nat.ne_of_lt hlt)).trans upd_same)
theorem lam_new {T : List NTab} {nm : Nat → Nat → Str} {c P : Addr} {params : Arguments} {body : Expr} {scope : Scope} {pos : Pos} {E Q : Value → Shared → Prop} (I : Inv X pins σ H s) (TB : TabB X.base X.mg c P) (hcode : X.env.code = .ref c) (hm : (P, nm) ∈ T)
    (hn : nm pos.line pos.col = X.env.qual ++ "<lambda>") (hu : ∀ p ∈ T, p.1 = P → p.2 = nm) (hT : TabsN T H) (hdef : defaultsOf params X.env = ([], [])) (hfree : ∀ y ∈ scope.names, y.2 = .free → ∃ c, X.env.cells.lookup y.1 = some c)
    (fin : ∀ (f c' : Addr) (H1 : Hp) (s' : Shared), Inv X pins σ H1 s' → ExtN H H1 → (∀ b, H1 b = Option.none → H b = Option.none) → TabsN T H1 → H f = none → H1 f = some (LamO f ⟨X.env.qual ++ "<lambda>", params, body, scope, cloFrom X.env.cells scope.names [], c', .none⟩) → H1 c' = some (CodeO c' (X.env.qual ++ "<lambda>")) → Q (.ref f) s') :
    wpAny (model X.prog X.w) X.A (eval (.Lambda params body scope pos) X.env) Q E s := by
  refine PySem.W.kla_eval hdef ?_
  rw [makeFunction_eq]
  simp only [List.zip_nil_right, List.filterMap_nil, List.isEmpty_nil, if_true, pure_bind]
  exact lam_tail I TB hcode hm hn hu hT hfree fin
end
/-- the reading of a lambda: a new function, its code known -/
def tLamE (T : List NTab) (mk : Addr → LF) : TE := fun σ H Q => TabsN T H ∧ ∀ (f c' : Addr) (H1 : Hp), ExtN H H1 → (∀ b, H1 b = Option.none → H b = Option.none) → TabsN T H1 → H f = none → H1 f = some (LamO f (mk c')) → H1 c' = some (CodeO c' (mk c').qual) → Q (.ref f) H1
theorem pe_lamE {X : Cx} {T : List NTab} {nm : Nat → Nat → Str} {c P : Addr} {params : Arguments} {body : Expr} {scope : Scope} {pos : Pos} (TB : TabB X.base X.mg c P) (hcode : X.env.code = .ref c) (hm : (P, nm) ∈ T) (hn : nm pos.line pos.col = X.env.qual ++ "<lambda>") (hu : ∀ p ∈ T, p.1 = P → p.2 = nm) (hdef : defaultsOf params X.env = ([], []))
    (hfree : ∀ y ∈ scope.names, y.2 = .free → X.env.scope.names.lookup y.1 = some .cell ∨ X.env.scope.names.lookup y.1 = some .free) : PE X (.Lambda params body scope pos) (tLamE T fun c' => ⟨X.env.qual ++ "<lambda>", params, body, scope, cloFrom X.env.cells scope.names [], c', .none⟩) := by
  refine ⟨fun pins s σ H Q I ⟨hT, h⟩ => ?_⟩
  exact lam_new I TB hcode hm hn hu hT hdef (fun y hy e => (hfree y hy e).elim (fun z => I.ok.has _ (.inl z)) fun z => I.ok.has _ (.inr z)) fun f c' H1 s' I1 e1 e2 e3 e4 e5 e6 => ⟨.ref f, H1, I1, rfl, h f c' H1 e1 e2 e3 e4 e5 e6⟩
/-! ### what may be called: a promise that goes with an address -/
/-- called in any state that has all of S, the function at f keeps the promise sp -/
def Cal (P : Program) (w : World) (K : PySem.W.Frag) (mg : Str → Option Value) (base : Heap) (CX : CXT) (k : Nat) (f : Addr) (sp : Sp) (S : Hp) : Prop :=
  (∃ F, S f = some (LamO f F)) ∧ ∀ (A : Around) (outer : List Env) (s : Shared) (H : Hp) (us : List Value) (vs : List V) (Q : VK) (E : XK), Ex S H → Room k A → Env0 P w K mg base A outer s H → Vals vs us → sp vs H Q E →
    codeAny (model P w) A (.call (.ref f) ⟨us, []⟩) (CR CX outer P w H s Q E) s
theorem Cal.mono {P : Program} {w : World} {K : PySem.W.Frag} {mg : Str → Option Value} {base : Heap} {CX : CXT} {k : Nat} {f : Addr} {sp : Sp} {S S' : Hp} (h : Cal P w K mg base CX k f sp S) (e : Ex S S') : Cal P w K mg base CX k f sp S' :=
  ⟨let ⟨F, z⟩ := h.1; ⟨F, e _ _ z⟩, fun A outer s H us vs Q E e2 => h.2 A outer s H us vs Q E (e.trans e2)⟩
def tCal (P : Program) (w : World) (K : PySem.W.Frag) (mg : Str → Option Value) (base : Heap) (CX : CXT) (k i : Nat) (E : XK) (t : TA) : TE := fun σ H Q => ∃ f sp S, σ[i]? = some (some (.ref f)) ∧ Cal P w K mg base CX k f sp S ∧ Ex S H ∧ t σ H fun vs H1 => Ex S H1 ∧ sp vs H1 Q E
section
variable {X : Cx} {CX : CXT} {i j k : Nat} {x : Str} {E : XK} {t : TA} {e : Expr} {es : List Expr} {p pos : Pos}
theorem lam_fnAt {pins : List (Addr × Obj)} {σ : L2.St} {H S : Hp} {s : Shared} {f : Addr} {sp : Sp} (I : Inv X pins σ H s) (C : Cal X.prog X.w X.K X.mg X.base CX k f sp S) (e : Ex S H) : PySem.W.FnAt f s.heap := by
  obtain ⟨F, z⟩ := C.1
  obtain ⟨od, sl, pm, ctv, ho⟩ := lamO_at I.hok (e _ _ z)
  exact ⟨_, od, _, sl, ho⟩
theorem run_cal {pins : List (Addr × Obj)} {σ : L2.St} {H S : Hp} {s : Shared} {f : Addr} {sp : Sp} {us : List Value} {vs : List V} {Q : VK} (I : Inv X pins σ H s) (C : Cal X.prog X.w X.K X.mg X.base CX k f sp S) (hr : Room k X.A) (hx : Passes CX X E) (eS : Ex S H) (r : Vals vs us) (q : sp vs H Q E) :
    wpAny (model X.prog X.w) X.A (call (.ref f) us) (EP X pins σ Q) X.xe s := by
  refine wpAny_call (codeAny_mono (C.2 X.A X.stack s H us vs Q E eS hr I.env0 r q) fun r s' hq => ?_)
  match r, hq with
  | .error e, hq => exact hx pins σ H s e s' I hq
  | .ok (.ret u), hq => exact I.after hq
  | .ok .next, hq => exact False.elim hq
  | .ok .brk, hq => exact False.elim hq
  | .ok .cont, hq => exact False.elim hq
theorem pe_cal (hr : Room j X.A) (hk : k ≤ j) (hx : Passes CX X E) (hN : X.N[i]? = some x) (hv : Vis X.env.scope x) (ha : PA X (e :: es) t) (hd : (x == ("__debug__" : Str)) = false := by decide) (hcd : (x == ("__classdict__" : Str)) = false := by decide)
    (he : starEach (e :: es) X.env = (false, eval e X.env) :: starEach es X.env := by rfl) (hpl : (backTo pos (starEach es X.env)).any (·.1) = false := by rfl) : PE X (.Call (.Name x p) (e :: es) [] pos) (tCal X.prog X.w X.K X.mg X.base CX k i E t) := by
  refine ⟨fun pins s σ H Q I ⟨f, sp, S, hs, C, eS, ht⟩ => ?_⟩
  refine wpAny_Call_Name_kw (thn ((pe_var (pos := p) hN hv hd hcd).run pins s σ H (fun v H1 => v = .ref f ∧ H1 = H) I ⟨.ref f, hs, rfl, rfl⟩) fun u s1 ⟨v, H1, I1, r1, ev, eH⟩ => ?_)
  subst ev eH
  obtain rfl : u = Value.ref f := r1
  exact PySem.W.callWith_F (first := []) (lam_fnAt I1 C eS) (thn (ha.run pos pins s1 σ H1 _ I1 ht) fun us s2 ⟨vs, H2, I2, r, e2, q⟩ => ⟨lam_fnAt I2 C e2, run_cal I2 C (hr.mono hk) hx e2 r q⟩) he hpl
theorem pe_cal0 (hr : Room j X.A) (hk : k ≤ j) (hx : Passes CX X E) (hN : X.N[i]? = some x) (hv : Vis X.env.scope x) (hd : (x == ("__debug__" : Str)) = false := by decide) (hcd : (x == ("__classdict__" : Str)) = false := by decide) :
    PE X (.Call (.Name x p) [] [] pos) (tCal X.prog X.w X.K X.mg X.base CX k i E tNil) := by
  refine ⟨fun pins s σ H Q I ⟨f, sp, S, hs, C, eS, e2, q⟩ => ?_⟩
  refine wpAny_Call_Name_kw (thn ((pe_var (pos := p) hN hv hd hcd).run pins s σ H (fun v H1 => v = .ref f ∧ H1 = H) I ⟨.ref f, hs, rfl, rfl⟩) fun u s1 ⟨v, H1, I1, r1, ev, eH⟩ => ?_)
  subst ev eH
  obtain rfl : u = Value.ref f := r1
  exact PySem.W.callWith_F0 (first := []) (lam_fnAt I1 C eS) (run_cal I1 C (hr.mono hk) hx e2 .nil q)
theorem pe_calE (P : Program) (w : World) (K : PySem.W.Frag) (mg : Str → Option Value) (base : Heap) (h1 : X.prog = P) (h2 : X.w = w) (h3 : X.K = K) (h4 : X.mg = mg) (h5 : X.base = base) (hr : Room j X.A) (hk : k ≤ j) (hx : Passes CX X E) (hN : X.N[i]? = some x) (hv : Vis X.env.scope x) (ha : PA X (e :: es) t)
    (hd : (x == ("__debug__" : Str)) = false := by decide) (hcd : (x == ("__classdict__" : Str)) = false := by decide) (he : starEach (e :: es) X.env = (false, eval e X.env) :: starEach es X.env := by rfl) (hpl : (backTo pos (starEach es X.env)).any (·.1) = false := by rfl) :
    PE X (.Call (.Name x p) (e :: es) [] pos) (tCal P w K mg base CX k i E t) := by
  subst h1 h2 h3 h4 h5
  exact pe_cal hr hk hx hN hv ha hd hcd he hpl
theorem pe_cal0E (P : Program) (w : World) (K : PySem.W.Frag) (mg : Str → Option Value) (base : Heap) (h1 : X.prog = P) (h2 : X.w = w) (h3 : X.K = K) (h4 : X.mg = mg) (h5 : X.base = base) (hr : Room j X.A) (hk : k ≤ j) (hx : Passes CX X E) (hN : X.N[i]? = some x) (hv : Vis X.env.scope x)
    (hd : (x == ("__debug__" : Str)) = false := by decide) (hcd : (x == ("__classdict__" : Str)) = false := by decide) : PE X (.Call (.Name x p) [] [] pos) (tCal P w K mg base CX k i E tNil) := by
  subst h1 h2 h3 h4 h5
  exact pe_cal0 hr hk hx hN hv hd hcd
end
end Sw
namespace Sw
open PySem PySem.Spec PyProof.Rows L2 Evl LamX NdefX
/-! ### cells that are known for a while: frozen for a callee -/
abbrev okT : HO := .ext fun _ => True
/-- of H, what N names is as H0 has it -/
noncomputable def mixN (N : Addr → Prop) (H0 H : Hp) : Hp := fun b => @ite _ (N b) (Classical.propDecidable _) (H0 b) (H b)
theorem mix_in {N : Addr → Prop} {H0 H : Hp} {b : Addr} (h : N b) : mixN N H0 H b = H0 b := by unfold mixN; rw [if_pos h]
theorem mix_ni {N : Addr → Prop} {H0 H : Hp} {b : Addr} (h : ¬ N b) : mixN N H0 H b = H b := by unfold mixN; rw [if_neg h]
structure Frz (X : Cx) (σ : L2.St) (H Hz : Hp) (N : Addr → Prop) : Prop where
  iff : ∀ b, N b ↔ ∃ y, X.env.cells.lookup y = some b
  out : ∀ b, ¬ N b → Hz b = H b
  off : ∀ b, N b → H b = Option.none
  inn : ∀ b, N b → ∃ o v, Hz b = some (.frz o okT) ∧ o.data = .cell v
  val : ∀ (i : Nat) (y : Str) (v : V) (c : Addr), X.N[i]? = some y → σ[i]? = some (some v) → (X.env.scope.names.lookup y = some .cell ∨ X.env.scope.names.lookup y = some .free) → X.env.cells.lookup y = some c → ∃ o u, Hz c = some (.frz o okT) ∧ o.data = .cell (some u) ∧ L2.RelV v u
  inj : ∀ x y c, X.env.cells.lookup x = some c → X.env.cells.lookup y = some c → x = y
  has : ∀ y, (X.env.scope.names.lookup y = some .cell ∨ X.env.scope.names.lookup y = some .free) → ∃ c, X.env.cells.lookup y = some c
theorem okT_ok {P : Program} {w : World} {H : Hp} {h : Heap} {a : Addr} {o : Obj} (e : h.get? a = some o) : ObjOk P w H h a (.frz o okT) := ⟨e, trivial, ⟨o, e⟩, fun _ _ _ _ => trivial⟩
/-- what is frozen, and how it comes back -/
theorem Frz.ex_ {X : Cx} {σ : L2.St} {H Hz : Hp} {N : Addr → Prop} (z : Frz X σ H Hz N) : Ex H Hz := fun b o e => by
  rw [z.out b (fun n => by rw [z.off b n] at e; cases e)]; exact e
theorem frz_env {X : Cx} {pins : List (Addr × Obj)} {σ : L2.St} {H : Hp} {s : Shared} (I : Inv X pins σ H s) (hfn : ∀ y, X.fn y = true) : ∃ Hz N, Frz X σ H Hz N ∧ Env0 X.prog X.w X.K X.mg X.base X.A X.stack s Hz ∧
    ∀ (Q : VK) (u : Value) (s' : Shared), CE X.stack X.prog X.w Hz s (fun v H2 => Q v (wn H2 N)) u s' → CE X.stack X.prog X.w H s Q u s' := by
  have cellOf : ∀ b, (∃ y, X.env.cells.lookup y = some b) → ∃ o v, s.heap.get? b = some o ∧ o.data = .cell v := fun b ⟨y, e⟩ => let ⟨v, o, h1, h2⟩ := I.cell y b e; ⟨o, v, h1, h2⟩
  let fz : Hp := fun b => (s.heap.get? b).map fun o => .frz o okT
  refine ⟨mixN (fun b => ∃ y, X.env.cells.lookup y = some b) fz H, fun b => ∃ y, X.env.cells.lookup y = some b, ?_, ?_, ?_⟩
  · refine ⟨fun b => Iff.rfl, fun b n => mix_ni n, fun b ⟨y, e⟩ => I.freeC y b e, fun b n => ?_, fun i y v c h1 h2 h3 h4 => ?_, I.ok.inj, I.ok.has⟩
    · obtain ⟨o, v, e1, e2⟩ := cellOf b n
      exact ⟨o, v, by rw [mix_in n]; show (s.heap.get? b).map _ = _; rw [e1]; rfl, e2⟩
    · obtain ⟨m, hn, hl⟩ := I.loc
      obtain ⟨u, r, l⟩ := hl i y v h1 h2 (h3.elim (fun z => .inr (.inl z)) fun z => .inr (.inr z))
      rcases l with ⟨z, _⟩ | ⟨_, a, ha, o, ho, hd⟩
      · have z' : X.env.scope.names.lookup y = some .local := z
        rcases h3 with k | k <;> rw [k] at z' <;> cases z'
      · rw [h4] at ha; cases ha
        exact ⟨o, u, by rw [mix_in ⟨y, h4⟩]; show (s.heap.get? c).map _ = _; rw [ho]; rfl, hd, r⟩
  · have e0 := I.env0
    have big : ∀ b, (∃ y, X.env.cells.lookup y = some b) → X.s_0.heap.objs.size ≤ b := fun b ⟨y, e⟩ => I.ok.cab y b (hfn y) e
    refine ⟨e0.frames, e0.mod, fun b o e => ⟨(e0.bs b o e).1, ?_⟩, e0.bsz, e0.funs, fun b hb => ?_, fun a o e => ?_, e0.bare⟩
    · rw [mix_ni fun n => absurd (Nat.lt_of_lt_of_le (Heap.lt_size (I.ok.bs b o e).1) (big b n)) (Nat.lt_irrefl _)]
      exact (e0.bs b o e).2
    · rw [mix_ni]
      · exact e0.frf b hb
      · intro n
        rcases List.mem_cons.mp (I.stkSub b hb) with z | z
        · obtain ⟨y, e⟩ := n
          exact I.cne y b e z
        · obtain ⟨_, o, ho, _⟩ := I.ok.funs.mem z
          exact absurd (Nat.lt_of_lt_of_le (Heap.lt_size ho) (big b n)) (Nat.lt_irrefl _)
    · by_cases n : ∃ y, X.env.cells.lookup y = some a
      · rw [mix_in n] at e
        obtain ⟨o', v, e1, e2⟩ := cellOf a n
        have e3 : (s.heap.get? a).map (fun o => HO.frz o okT) = some o := e
        rw [e1] at e3; cases e3
        exact okT_ok e1
      · rw [mix_ni n] at e
        refine (e0.hok a o e).stay (fun b u _ q => q) (fun b q => ?_) fun b xs q => ?_
        · rw [mix_ni fun ⟨y, z⟩ => by rw [I.freeC y b z] at q; cases q]; exact q
        · rw [mix_ni fun ⟨y, z⟩ => by rw [I.freeC y b z] at q; cases q]; exact q
  · rintro Q u s' ⟨v, H2, os, bare, un, hok, r, q⟩
    have fr : ∀ b, (∃ y, X.env.cells.lookup y = some b) → ∀ o, s.heap.get? b = some o → H2 b = some (.frz o okT) ∧ s'.heap.get? b = some o := fun b n o e => by
      have z := un.frzs b o okT (by rw [mix_in n]; show (s.heap.get? b).map _ = _; rw [e]; rfl)
      exact ⟨z, (hok b _ z).1⟩
    have mz : ∀ {b : Addr}, (¬ ∃ y, X.env.cells.lookup y = some b) → H b = Option.none → mixN (fun b => ∃ y, X.env.cells.lookup y = some b) fz H b = Option.none := fun n e => (mix_ni n).trans e
    refine ⟨v, wn H2 _, os, bare, ⟨fun b o e n h1 h2 => ?_, fun b o e n h1 h2 => ?_, fun b o e n h2 => ?_, un.there, fun b xs e => ?_, fun b o u e => ?_, fun b ps e => ?_⟩, fun a o e => ?_, r, q⟩
    · by_cases c : ∃ y, X.env.cells.lookup y = some b
      · exact (fr b c o e).2
      · exact un.keep b o e (mz c n) h1 h2
    · by_cases c : ∃ y, X.env.cells.lookup y = some b
      · exact ⟨o.slots, (fr b c o e).2⟩
      · exact un.slot b o e (mz c n) h1 h2
    · by_cases c : ∃ y, X.env.cells.lookup y = some b
      · exact wn_in c
      · rw [wn_ni c]; exact un.free b o e (mz c n) h2
    · have c : ¬ ∃ y, X.env.cells.lookup y = some b := fun ⟨y, z⟩ => by rw [I.freeC y b z] at e; cases e
      rw [wn_ni c]; exact un.tups b xs ((mix_ni c).trans e)
    · have c : ¬ ∃ y, X.env.cells.lookup y = some b := fun ⟨y, z⟩ => by rw [I.freeC y b z] at e; cases e
      rw [wn_ni c]; exact un.frzs b o u ((mix_ni c).trans e)
    · have c : ¬ ∃ y, X.env.cells.lookup y = some b := fun ⟨y, z⟩ => by rw [I.freeC y b z] at e; cases e
      obtain ⟨more, z⟩ := un.tbls b ps ((mix_ni c).trans e)
      exact ⟨more, by rw [wn_ni c]; exact z⟩
    · obtain ⟨c, e'⟩ := wn_some e
      have nc : ∀ {b : Addr} {o : HO}, H2 b = some o → (∀ ob, o ≠ .frz ob okT) → ¬ ∃ y, X.env.cells.lookup y = some b := fun {b o} q ne n => by
        obtain ⟨ob, _, e1, _⟩ := cellOf b n
        rw [(fr b n ob e1).1] at q
        exact ne ob (Option.some.inj q).symm
      refine (hok a o e').stay (fun b u _ q => q) (fun b q => ?_) fun b xs q => ?_
      · rw [wn_ni (nc q fun _ z => nomatch z)]; exact q
      · rw [wn_ni (nc q fun _ z => nomatch z)]; exact q
/-- f(..) of a def that lets nothing out, the caller's cells frozen while it runs -/
def tCallZ (X : Cx) (sp : Sp) (dvs : List V) (t : TA) : TE := fun σ H Q => t σ H fun vs H1 => ∀ Hz N, Frz X σ H1 Hz N → sp (vs ++ dvs) Hz (fun v H2 => Q v (wn H2 N)) E0
theorem pe_callZ {X : Cx} {k : Nat} {f : Addr} {fd : FuncData} {ps : List Str} {sp : Sp} {dvs : List V} {ds : List Value} {x : Str} {p pos : Pos} {e : Expr} {es : List Expr} {t : TA} (F : FnOk X.prog X.w X.K X.mg X.base L2.CX0 k f fd ps sp) (hr : Room k X.A) (hg : Gl X x) (hm : X.mg x = some (.ref f)) (hk : PySem.W.keepIn X.K (.ref f) = true)
    (hb : L2.Binds X.K fd ps ds) (hd : Vals dvs ds) (ha : PA X (e :: es) t) (hfn : ∀ y, X.fn y = true := by intro _; rfl) (hdb : (x == ("__debug__" : Str)) = false := by decide) (he : starEach (e :: es) X.env = (false, eval e X.env) :: starEach es X.env := by rfl) (hpl : (backTo pos (starEach es X.env)).any (·.1) = false := by rfl) :
    PE X (.Call (.Name x p) (e :: es) [] pos) (tCallZ X sp dvs t) := by
  refine ⟨fun pins s σ H Q I h => ?_⟩
  refine wpAny_Call_Name_kw (ld_glob I hg hm (PySem.W.callWith_K (h₀ := X.base) I.ok.mod.kin hk (thn (ha.run pos pins s σ H _ I h) fun us s1 ⟨vs, H1, I1, r, q⟩ => ⟨I1.kIn, ?_⟩) he hpl) hdb)
  obtain ⟨Hz, N, fz, e0, back⟩ := frz_env I1 hfn
  have q := q Hz N fz
  have r2 : Vals (vs ++ dvs) (us ++ ds) := r.append hd
  have hl : (us ++ ds).length = ps.length := by rw [← r2.length]; exact F.len _ _ _ _ q
  refine wpAny_call (codeAny_mono (F.run X.A X.stack s1 Hz ⟨us, []⟩ (us ++ ds) (vs ++ dvs) _ _ hr e0 (hb s1 us I1.kIn hl) r2 q) fun r s' hq => ?_)
  match r, hq with
  | .error e, hq => exact (show False from hq).elim
  | .ok (.ret u), hq => exact I1.after (back Q u s' hq)
  | .ok .next, hq => exact False.elim hq
  | .ok .brk, hq => exact False.elim hq
  | .ok .cont, hq => exact False.elim hq
end Sw
namespace Sw
open PySem PySem.Spec PyProof.Rows L2 Evl LamX NdefX
/-! ### a lambda's promise, from its body -/
structure CloK (S : Hp) (f : Addr) (F : LF) (fr : List Str) (ws : List (Option V)) : Prop where
  fn : S f = some (LamO f F)
  co : S F.c = some (CodeO F.c F.qual)
  len : ws.length = fr.length
  all : ∀ y c, F.cl.lookup y = some c → ∃ o v, S c = some (.frz o okT) ∧ o.data = .cell v
  inj : ∀ x y c, F.cl.lookup x = some c → F.cl.lookup y = some c → x = y
  has : ∀ (i : Nat) (y : Str), fr[i]? = some y → ∃ c, F.cl.lookup y = some c ∧ ∀ v, ws[i]? = some (some v) → ∃ o u, S c = some (.frz o okT) ∧ o.data = .cell (some u) ∧ L2.RelV v u
theorem CloK.mono {S S' : Hp} {f : Addr} {F : LF} {fr : List Str} {ws : List (Option V)} (e : Ex S S') (C : CloK S f F fr ws) : CloK S' f F fr ws :=
  ⟨e _ _ C.fn, e _ _ C.co, C.len, fun y c h => let ⟨o, v, a, b⟩ := C.all y c h; ⟨o, v, e _ _ a, b⟩, C.inj, fun i y h => let ⟨c, a, b⟩ := C.has i y h; ⟨c, a, fun v hv => let ⟨o, u, p, q⟩ := b v hv; ⟨o, u, e _ _ p, q⟩⟩⟩
/-- the cells that a lambda captured -/
def clN (F : LF) : Addr → Prop := fun b => ∃ y, F.cl.lookup y = some b
theorem clo_frz {X : Cx} {σ : L2.St} {H Hz : Hp} {N : Addr → Prop} {f : Addr} {F : LF} {scope : Scope} {fr : List Str} {js : List Nat} (z : Frz X σ H Hz N) (hf : H f = some (LamO f F)) (hc : H F.c = some (CodeO F.c F.qual)) (hcl : F.cl = cloFrom X.env.cells scope.names [])
    (hfree : ∀ y ∈ scope.names, y.2 = .free → X.env.scope.names.lookup y.1 = some .cell ∨ X.env.scope.names.lookup y.1 = some .free) (hfr : ∀ y ∈ fr, (y, NameKind.free) ∈ scope.names) (hjs : js.map (fun j => X.N[j]?) = fr.map some) : CloK Hz f F fr (js.map (slotAt σ)) := by
  have hF : ∀ y ∈ scope.names, y.2 = .free → ∃ c, X.env.cells.lookup y.1 = some c := fun y hy e => z.has y.1 (hfree y hy e)
  have sub : ∀ y c, F.cl.lookup y = some c → X.env.cells.lookup y = some c := fun y c e => clo_cm hF (by rw [hcl] at e; exact e)
  have kn : ∀ {a : Addr} {o : HO}, H a = some o → Hz a = some o := fun {a o} e => z.ex_ a o e
  have ln : js.length = fr.length := by
    have q := congrArg List.length hjs
    rw [List.length_map, List.length_map] at q; exact q
  refine ⟨kn hf, kn hc, by rw [List.length_map]; exact ln, fun y c e => z.inn c ((z.iff c).mpr ⟨y, sub y c e⟩), fun x y c a b => z.inj x y c (sub x c a) (sub y c b), fun i y e => ?_⟩
  have k := hfree (y, .free) (hfr y (List.mem_of_getElem? e)) rfl
  obtain ⟨c, hc0⟩ := z.has y k
  refine ⟨c, by rw [hcl]; exact clo_has hF (hfr y (List.mem_of_getElem? e)) hc0, fun v ev => ?_⟩
  have e2 : (js.map fun j => X.N[j]?)[i]? = some (some y) := by rw [hjs, List.getElem?_map, e]; rfl
  rw [List.getElem?_map] at e2 ev
  cases ej : js[i]? with
  | none => rw [ej] at e2; cases e2
  | some j =>
    rw [ej] at e2 ev
    exact z.val j y v c (Option.some.inj (show some (X.N[j]?) = some (some y) from e2)) (slotAt_some (Option.some.inj (show some (slotAt σ j) = some (some v) from ev))) k hc0
/-- a state in which the cells of Nf are frozen, and the same state without them -/
structure Thaw (H : Hp) (Nf : Addr → Prop) : Prop where
  all : ∀ b, Nf b → ∃ o v, H b = some (.frz o okT) ∧ o.data = .cell v
theorem Thaw.off {H : Hp} {Nf : Addr → Prop} (t : Thaw H Nf) {b : Addr} {o : HO} (e : H b = some o) (n : ∀ ob, o ≠ .frz ob okT) : ¬ Nf b := fun z => let ⟨ob, _, q, _⟩ := t.all b z; n ob (Option.some.inj (e.symm.trans q))
theorem Thaw.offN {H : Hp} {Nf : Addr → Prop} (t : Thaw H Nf) {b : Addr} (e : H b = none) : ¬ Nf b := fun z => let ⟨_, _, q, _⟩ := t.all b z; by rw [e] at q; cases q
section
variable {P : Program} {w : World} {K : PySem.W.Frag} {mg : Str → Option Value} {base : Heap} {A : Around} {outer : List Env} {s : Shared} {H : Hp} {Nf : Addr → Prop}
theorem Thaw.env (t : Thaw H Nf) (e0 : Env0 P w K mg base A outer s H) : Env0 P w K mg base A outer s (wn H Nf) := by
  have off : ∀ {b : Addr}, H b = none → wn H Nf b = none := fun {b} e => (wn_ni (t.offN e)).trans e
  refine ⟨e0.frames, e0.mod, fun b o e => ⟨(e0.bs b o e).1, off (e0.bs b o e).2⟩, e0.bsz, e0.funs, fun b hb => off (e0.frf b hb), fun a o e => ?_, e0.bare⟩
  obtain ⟨_, e'⟩ := wn_some e
  refine (e0.hok a o e').stay (fun b u _ q => q) (fun b q => ?_) fun b xs q => ?_
  · rw [wn_ni (t.off q fun _ z => nomatch z)]; exact q
  · rw [wn_ni (t.off q fun _ z => nomatch z)]; exact q
/-- the heap behind: the frozen cells as they were -/
theorem Thaw.hok {B : Heap} {H3 : Hp} (t : Thaw H Nf) (hf : ∀ b o, H b = some (.frz o okT) → Nf b → B.get? b = some o ∧ H3 b = none) (hok : HOk P w H3 B) : HOk P w (mixN Nf H H3) B := fun a o e => by
  by_cases c : Nf a
  · rw [mix_in c] at e
    obtain ⟨ob, _, q, _⟩ := t.all a c
    rw [q] at e; cases e
    exact okT_ok (hf a ob q c).1
  · rw [mix_ni c] at e
    have nn : ∀ {b : Addr} {o : HO}, H3 b = some o → ¬ Nf b := fun {b o} q z => by
      obtain ⟨ob, _, q2, _⟩ := t.all b z
      rw [(hf b ob q2 z).2] at q; cases q
    refine (hok a o e).stay (fun b u _ q => q) (fun b q => ?_) fun b xs q => ?_
    · rw [mix_ni (nn q)]; exact q
    · rw [mix_ni (nn q)]; exact q
theorem Thaw.back (t : Thaw H Nf) (e0 : Env0 P w K mg base A outer s H) {Q : VK} {u : Value} {s' : Shared} (h : CE outer P w (wn H Nf) s (fun v H3 => (∀ b, Nf b → H3 b = none) → Q v (mixN Nf H H3)) u s') : CE outer P w H s Q u s' := by
  obtain ⟨v, H3, os, bare, un, hok, r, q⟩ := h
  have off : ∀ {b : Addr}, H b = none → wn H Nf b = none := fun {b} e => (wn_ni (t.offN e)).trans e
  have at_ : ∀ b o, H b = some (.frz o okT) → Nf b → s.heap.get? b = some o := fun b o e _ => (e0.hok b _ e).1
  have nfr : ∀ b, Nf b → b ∉ frs outer := fun b z hb => t.offN (e0.frf b hb) z
  have hf : ∀ b o, H b = some (.frz o okT) → Nf b → s'.heap.get? b = some o ∧ H3 b = none := fun b o e z =>
    ⟨un.keep b o (at_ b o e z) (wn_in z) (nfr b z) (by simp), un.free b o (at_ b o e z) (wn_in z) (by simp)⟩
  refine ⟨v, mixN Nf H H3, os, bare, ⟨fun b o e n h1 h2 => un.keep b o e (off n) h1 h2, fun b o e n h1 h2 => un.slot b o e (off n) h1 h2, fun b o e n h2 => (mix_ni (t.offN n)).trans (un.free b o e (off n) h2), un.there, fun b xs e => ?_, fun b o u e => ?_, fun b ps e => ?_⟩, t.hok hf hok, r, q fun b z => let ⟨ob, _, e, _⟩ := t.all b z; (hf b ob e z).2⟩
  · have c := t.off e fun _ z => nomatch z
    rw [mix_ni c]; exact un.tups b xs ((wn_ni c).trans e)
  · by_cases c : Nf b
    · exact (mix_in c).trans e
    · rw [mix_ni c]; exact un.frzs b o u ((wn_ni c).trans e)
  · have c := t.off e fun _ z => nomatch z
    obtain ⟨more, z⟩ := un.tbls b ps ((wn_ni c).trans e)
    exact ⟨more, by rw [mix_ni c]; exact z⟩
/-- what is let out is let out from the frozen state too -/
def Backs (CX : CXT) (P : Program) (w : World) (K : PySem.W.Frag) (mg : Str → Option Value) (base : Heap) : Prop := ∀ (A : Around) (outer : List Env) (s : Shared) (H : Hp) (Nf : Addr → Prop) (E : XK) (e : Value) (s' : Shared), Thaw H Nf → Env0 P w K mg base A outer s H →
  CX outer (wn H Nf) s (fun c d H3 => (∀ b, Nf b → H3 b = none) → E c d (mixN Nf H H3)) e s' → CX outer H s E e s'
theorem backs0 : Backs L2.CX0 P w K mg base := fun _ _ _ _ _ _ _ _ _ _ z => z
theorem backsX : Backs (L2.CX P w) P w K mg base := fun A outer s H Nf E e s' t e0 ⟨a, B, H3, cls, d, e1, fl, hok, un, na, os, bare, hE⟩ => by
  have off : ∀ {b : Addr}, H b = none → wn H Nf b = none := fun {b} e => (wn_ni (t.offN e)).trans e
  have at_ : ∀ b o, H b = some (.frz o okT) → Nf b → s.heap.get? b = some o := fun b o e _ => (e0.hok b _ e).1
  have nfr : ∀ b, Nf b → b ∉ frs outer := fun b z hb => t.offN (e0.frf b hb) z
  have hf : ∀ b o, H b = some (.frz o okT) → Nf b → B.get? b = some o ∧ H3 b = none := fun b o e z =>
    ⟨un.keep b o (at_ b o e z) (wn_in z) (nfr b z), un.free b o (at_ b o e z) (wn_in z)⟩
  have nA : ¬ Nf a := fun z => by
    obtain ⟨ob, _, q, _⟩ := t.all a z
    have z2 := (hf a ob q z).1
    rw [fl.2.1] at z2; cases z2
  refine ⟨a, B, mixN Nf H H3, cls, d, e1, fl, t.hok hf hok, ⟨fun b o e n h1 => un.keep b o e (off n) h1, un.slot, fun b o e n => (mix_ni (t.offN n)).trans (un.free b o e (off n)), un.there, fun b xs e => ?_, fun b o u e => ?_, fun b ps e => ?_⟩, (mix_ni nA).trans na, os, bare, hE fun b z => let ⟨ob, _, q, _⟩ := t.all b z; (hf b ob q z).2⟩
  · have c := t.off e fun _ z => nomatch z
    rw [mix_ni c]; exact un.tups b xs ((wn_ni c).trans e)
  · by_cases c : Nf b
    · exact (mix_in c).trans e
    · rw [mix_ni c]; exact un.frzs b o u ((wn_ni c).trans e)
  · have c := t.off e fun _ z => nomatch z
    obtain ⟨more, z⟩ := un.tbls b ps ((wn_ni c).trans e)
    exact ⟨more, by rw [mix_ni c]; exact z⟩
end
theorem lam_cal {CX : CXT} {P : Program} {w : World} {K : PySem.W.Frag} {mg : Str → Option Value} {base : Heap} {N ps fr : List Str} {F : LF} {f : Addr} {k : Nat} {sp : Sp} {S S0 : Hp} {ws : List (Option V)} (C : CloK S f F fr ws) (Sc : NScope N ps fr F.scope) (bk : Backs CX P w K mg base)
    (hb : ∀ (pm ctv : Value) (us : List Value), us.length = ps.length → bindArgs (F.fd pm ctv) ⟨us, []⟩ = pure (ps.zip us)) (len : ∀ vs H Q E, sp vs H Q E → vs.length = ps.length) (e0 : Ex S0 S) (n0 : ∀ y c, F.cl.lookup y = some c → S0 c = none)
    (hbody : ∀ (A : Around) (outer : List Env) (s : Shared) (H : Hp) (vs : List V) (Q : VK) (E : XK), Room k (A.deeper (envF F.nf f s.heap.objs.size)) → Ex S H → Ex S0 (wn H (clN F)) → sp vs H Q E →
      ∃ t, PE (ncx CX P w K mg base N F.nf f A outer s (wn H (clN F)) (fun c d H3 => (∀ b, clN F b → H3 b = none) → E c d (mixN (clN F) H H3))) F.body t ∧ t (startF N vs ws) (wn H (clN F)) (fun v H3 => (∀ b, clN F b → H3 b = none) → Q v (mixN (clN F) H H3))) :
    Cal P w K mg base CX (k + 1) f sp S := by
  refine ⟨⟨F, C.fn⟩, fun A outer s H us vs Q E eS hr e1 r hsp => ?_⟩
  have C' := C.mono eS
  have t : Thaw H (clN F) := ⟨fun b ⟨y, z⟩ => C'.all y b z⟩
  have hl := len _ _ _ _ hsp
  have lim : s.heap.NoLimit := e1.mod.nolimit.keeps fun b o e => (e1.bs b o e).1
  obtain ⟨od, sl, pm, ctv, ho⟩ := lamO_at e1.hok C'.fn
  refine PySem.W.kla_callFunE hr.depth ho rfl Sc.co Sc.gen rfl (codeO_at e1.hok C'.co) ?_
  rw [hb pm ctv us (by rw [← r.length]; exact hl)]
  refine wpAny_pure (wpAny_newFunctionEnv Sc.nocell (fun ⟨n, _⟩ hy => Sc.par n (List.of_mem_zip hy).1) (fun h₁ hns hsb => ⟨lim.fresh _ hsb, ?_⟩) Sc.kind)
  show codeAny _ _ (.expr F.body (envF F.nf f s.heap.objs.size)) _ _
  have kp : ∀ b o, s.heap.get? b = some o → h₁.get? b = some o := fun b o e => hsb.extBut b o (Nat.ne_of_lt (Heap.lt_size e)) (Heap.get?_push_of_some _ e)
  have x0 : Ex S0 (wn H (clN F)) := fun b o e => by
    rw [wn_ni fun ⟨y, z⟩ => by rw [n0 y b z] at e; cases e]
    exact eS _ _ (e0 _ _ e)
  obtain ⟨tb, ht, hq⟩ := hbody A outer s H vs Q E (hr.deeper _) eS x0 hsp
  have cells : CellsAt F.cl fr ws s.heap (wn H (clN F)) := ⟨C'.len, fun y c e => ⟨wn_in ⟨y, e⟩, let ⟨o, v, q1, q2⟩ := C'.all y c e; ⟨v, o, (e1.hok c _ q1).1, q2⟩⟩, C'.inj, fun i y e => let ⟨c, q1, q2⟩ := C'.has i y e; ⟨c, q1, fun v hv => let ⟨o, u, q3, q4, q5⟩ := q2 v hv; ⟨u, q5, o, (e1.hok c _ q3).1, q4⟩⟩⟩
  have I : Inv (ncx CX P w K mg base N F.nf f A outer s (wn H (clN F)) (fun c d H3 => (∀ b, clN F b → H3 b = none) → E c d (mixN (clN F) H H3))) [] (startF N vs ws) (wn H (clN F)) { s with heap := h₁, toks := s.toks + (ps.zip us).length } := inv_startN (F := F.nf) Sc hr.hd (t.env e1) hl r cells hns kp
  refine PySem.W.kla_codeExpr (wpAny_mono (ht.run [] _ _ _ _ I hq) (fun v s' hv => ?_) fun e s' he => wpAny_mono he (fun _ s'' z => bk A outer s H _ E e s'' t e1 z) fun e' s'' z => bk A outer s H _ E e' s'' t e1 z)
  obtain ⟨v', H', J, rv, q⟩ := hv
  exact t.back e1 ⟨v', H', J.os, J.bare, J.base, J.hok, rv, q⟩
end Sw
namespace Sw
open PySem PySem.Spec PyProof.Rows L2 Evl LamX NdefX
/-- a def whose code object stands at c -/
structure FunC (K : PySem.W.Frag) (x qual : Str) (st : Stmt) (f : Addr) (fd : FuncData) (c : Addr) : Prop where
  ex : ∃ (oc : Value) (od : Option Addr) (kV doc pm : Value) (an : Option Addr) (ct : Value) (osl : Array (Option Value)), fd = PySem.W.fnOf x qual (L2.defArgs st) (L2.defBody st) (L2.defScope st) .none kV doc pm an (.ref c) ct ∧ K.lookup f = some ⟨oc, od, .func fd, osl⟩ ∧ PySem.W.codeIn K (.ref c) qual = true
theorem FunC.ok {P : Program} {w : World} {K : PySem.W.Frag} {mg : Str → Option Value} {base : Heap} {x qual : Str} {st : Stmt} {f : Addr} {fd : FuncData} {c : Addr} {N ps : List Str} {k : Nat} {sp : Sp} (F : FunC K x qual st f fd c) (S : FnScope N ps (L2.defScope st)) (len : ∀ vs H Q E, sp vs H Q E → vs.length = ps.length)
    (hbody : ∀ (A : Around) (outer : List Env) (s : Shared) (H : Hp) (vs : List V) (Q : VK) (E : XK), Room k (A.deeper (envOfC qual (L2.defScope st) s.heap.objs.size f (.ref c))) → sp vs H Q E →
      ∃ t, PSs (cxOf L2.CX0 P w K mg base N qual (L2.defScope st) f (.ref c) A outer s H E).nox (L2.defBody st) t ∧ t { nx := fun _ H' => Q .non H', rt := Q } (L2.start N vs) H) : FnOk P w K mg base L2.CX0 (k + 1) f fd ps sp := by
  obtain ⟨oc, od, kV, doc, pm, an, ct, osl, rfl, lk, hcd⟩ := F.ex
  exact fn_of lk hcd S len fun A outer s H vs Q E hr hsp => let ⟨t, h, q⟩ := hbody A outer s H vs Q E hr hsp; ⟨t, h.nox, q⟩
theorem funC_mk {K : PySem.W.Frag} {x qual : Str} {st : Stmt} {f c : Addr} {oc : Value} {od an : Option Addr} {osl : Array (Option Value)} {kV doc pm ct : Value} (l : K.lookup f = some ⟨oc, od, .func (PySem.W.fnOf x qual (L2.defArgs st) (L2.defBody st) (L2.defScope st) .none kV doc pm an (.ref c) ct), osl⟩)
    (h : PySem.W.codeIn K (.ref c) qual = true) : FunC K x qual st f (PySem.W.fnOf x qual (L2.defArgs st) (L2.defBody st) (L2.defScope st) .none kV doc pm an (.ref c) ct) c := ⟨oc, od, kV, doc, pm, an, ct, osl, rfl, l, h⟩
/-! ### a heap without its tables -/
def nt (H : Hp) : Hp := fun b => match H b with
  | some (.tbl _) => none
  | o => o
theorem nt_of {H : Hp} {b : Addr} {o : HO} (e : H b = some o) (n : ∀ ps, o ≠ .tbl ps) : nt H b = some o := by
  unfold nt
  rw [e]
  cases o <;> first | rfl | exact absurd rfl (n _)
theorem nt_some {H : Hp} {b : Addr} {o : HO} (e : nt H b = some o) : H b = some o ∧ ∀ ps, o ≠ .tbl ps := by
  unfold nt at e
  cases q : H b with
  | none => rw [q] at e; cases e
  | some u =>
    rw [q] at e
    cases u <;> first | (cases e; exact ⟨rfl, fun _ z => nomatch z⟩) | cases e
theorem nt_ex {H : Hp} : Ex (nt H) H := fun _ _ e => (nt_some e).1
theorem extN_nt {H H1 : Hp} (e : ExtN H H1) : Ex (nt H) (nt H1) := fun b o h => nt_of (e b o (nt_some h).1 (nt_some h).2) (nt_some h).2
theorem extN_of {H H1 : Hp} (e : Ex H H1) : ExtN H H1 := fun b o h _ => e b o h
theorem extN_wn {H H1 : Hp} {N : Addr → Prop} (e : ExtN H H1) : ExtN (wn H N) (wn H1 N) := fun b o h n => by
  obtain ⟨q1, q2⟩ := wn_some h
  rw [wn_ni q1]; exact e b o q2 n
theorem nt_t {K : PySem.W.Frag} {H : Hp} {a : Addr} {xs : List V} (h : SqT K H a xs) : SqT K (nt H) a xs := by
  rcases h with (h | ⟨u, h⟩) | h
  · exact .inl (.inl (nt_of h fun _ z => nomatch z))
  · exact .inl (.inr ⟨u, nt_of h fun _ z => nomatch z⟩)
  · exact .inr h
theorem nt_l {K : PySem.W.Frag} {H : Hp} {a : Addr} {xs : List V} (h : SqL K H a xs) : SqL K (nt H) a xs := by
  rcases h with (h | ⟨u, h⟩) | h
  · exact .inl (.inl (nt_of h fun _ z => nomatch z))
  · exact .inl (.inr ⟨u, nt_of h fun _ z => nomatch z⟩)
  · exact .inr h
theorem tabsN_ext {T : List NTab} {H H' : Hp} (t : TabsN T H) (e : Ex H H') : TabsN T H' := t.ext e
end Sw
namespace Sw
open PySem PySem.Spec PyProof.Rows L2 Evl LamX NdefX
/-! ### lambdas with one parameter that has a number as its default -/
theorem evalD {M : Model} {A : Around} {E Q : Value → Shared → Prop} {s : Shared} {params : Arguments} {body e : Expr} {scope : Scope} {pos : Pos} {env : Env} (hdef : defaultsOf params env = ([eval e env], []))
    (h : wpAny M A (eval e env) (fun v s1 => wpAny M A (makeFunction "<lambda>" (env.qual ++ "<lambda>") params (.expr body) scope env [v] [] [] pos pos.line) Q E s1) E s) : wpAny M A (eval (.Lambda params body scope pos) env) Q E s := by
  rw [arm_eval_Lambda, hdef]
  show wpAny M A (do let dv ← evalAll [eval e env]; let kdv ← holding dv (evalAllOpt []); makeFunction "<lambda>" (env.qual ++ "<lambda>") params (.expr body) scope env dv kdv [] pos pos.line) Q E s
  refine wpAny_bind ?_
  show wpAny M A (eval e env >>= fun v => holding [v] (evalAll []) >>= fun r => pure (v :: r)) _ E s
  refine wpAny_bind (wpAny_mono h (fun v s1 h1 => ?_) fun _ _ z => z)
  exact wpAny_bind (wpAny_holding (wpAny_pure (wpAny_pure (wpAny_bind (wpAny_holding (wpAny_pure h1))))))
section
variable {X : Cx} {pins : List (Addr × Obj)} {σ : L2.St} {H : Hp} {s : Shared}
theorem lam_newD {T : List NTab} {nm : Nat → Nat → Str} {c P : Addr} {params : Arguments} {body e : Expr} {scope : Scope} {pos : Pos} {i : Int} {E Q : Value → Shared → Prop} (I : Inv X pins σ H s) (TB : TabB X.base X.mg c P) (hcode : X.env.code = .ref c) (hm : (P, nm) ∈ T)
    (hn : nm pos.line pos.col = X.env.qual ++ "<lambda>") (hu : ∀ p ∈ T, p.1 = P → p.2 = nm) (hT : TabsN T H) (he : PE X e (tC (.int i))) (hE : E = X.xe) (hdef : defaultsOf params X.env = ([eval e X.env], [])) (hfree : ∀ y ∈ scope.names, y.2 = .free → ∃ c, X.env.cells.lookup y.1 = some c)
    (fin : ∀ (f c' t : Addr) (H1 : Hp) (s' : Shared), Inv X pins σ H1 s' → ExtN H H1 → (∀ b, H1 b = Option.none → H b = Option.none) → TabsN T H1 → H f = none → H1 f = some (LamO f ⟨X.env.qual ++ "<lambda>", params, body, scope, cloFrom X.env.cells scope.names [], c', .ref t⟩) → H1 c' = some (CodeO c' (X.env.qual ++ "<lambda>")) → H1 t = some (.tup [.int i]) → Q (.ref f) s') :
    wpAny (model X.prog X.w) X.A (eval (.Lambda params body scope pos) X.env) Q E s := by
  subst hE
  refine evalD hdef (thn (he.run pins s σ H (fun v H1 => v = .int i ∧ H1 = H) I ⟨rfl, rfl⟩) fun u s1 ⟨v, H1, I1, r, ev, eH⟩ => ?_)
  subst ev eH
  obtain ⟨tk, rfl⟩ := (show ∃ t, u = Value.int i t from r)
  rw [makeFunction_eq]
  simp only [List.zip_nil_right, List.filterMap_nil, List.isEmpty_nil, List.isEmpty_cons, Bool.false_eq_true, if_false, if_true, pure_bind]
  refine wpAny_bind (wpAny_newTextTuple ?_)
  have nT : H1 s1.heap.objs.size = none := I1.hok.fresh (Nat.le_refl _)
  have I2 := I1.laid (h' := s1.heap.push ({ cls := .type "tuple", data := .seq #[Value.int i tk] } : Obj)) (o := .tup [.int i]) (t' := s1.toks) (fun b u e => Heap.get?_push_of_some _ e) (Nat.le_refl _) ⟨by show 1 ≤ sizeLine; decide, [Value.int i tk], .cons ⟨tk, rfl⟩ .nil, ⟨_, Heap.get?_push_size _ rfl, rfl, _, rfl⟩⟩
  exact lam_tail (dv := .ref s1.heap.objs.size) I2 TB hcode hm hn hu (hT.ext fun b o e => (upd_ne (ne_of_none e nT)).trans e) hfree fun f c' H3 s' I3 e1 e2 e3 e4 e5 e6 =>
    fin f c' s1.heap.objs.size H3 s' I3 (fun b o hb n => e1 b o ((upd_ne (ne_of_none hb nT)).trans hb) n) (fun b z => upd_none (e2 b z)) e3 (upd_none e4) e5 e6 (e1 _ _ upd_same fun _ z => nomatch z)
end
/-- the reading of such a lambda -/
def tLamD (T : List NTab) (mk : Addr → Addr → LF) (i : Int) : TE := fun σ H Q => TabsN T H ∧ ∀ (f c' t : Addr) (H1 : Hp), ExtN H H1 → (∀ b, H1 b = Option.none → H b = Option.none) → TabsN T H1 → H f = none → H1 f = some (LamO f (mk c' t)) → H1 c' = some (CodeO c' (mk c' t).qual) → H1 t = some (.tup [.int i]) → Q (.ref f) H1
theorem pe_lamD {X : Cx} {T : List NTab} {nm : Nat → Nat → Str} {c P : Addr} {params : Arguments} {body e : Expr} {scope : Scope} {pos : Pos} {i : Int} (TB : TabB X.base X.mg c P) (hcode : X.env.code = .ref c) (hm : (P, nm) ∈ T) (hn : nm pos.line pos.col = X.env.qual ++ "<lambda>") (hu : ∀ p ∈ T, p.1 = P → p.2 = nm) (he : PE X e (tC (.int i)))
    (hdef : defaultsOf params X.env = ([eval e X.env], [])) (hfree : ∀ y ∈ scope.names, y.2 = .free → X.env.scope.names.lookup y.1 = some .cell ∨ X.env.scope.names.lookup y.1 = some .free) :
    PE X (.Lambda params body scope pos) (tLamD T (fun c' t => ⟨X.env.qual ++ "<lambda>", params, body, scope, cloFrom X.env.cells scope.names [], c', .ref t⟩) i) := by
  refine ⟨fun pins s σ H Q I ⟨hT, h⟩ => ?_⟩
  exact lam_newD I TB hcode hm hn hu hT he rfl hdef (fun y hy e => (hfree y hy e).elim (fun z => I.ok.has _ (.inl z)) fun z => I.ok.has _ (.inr z)) fun f c' t H1 s' I1 e1 e2 e3 e4 e5 e6 e7 => ⟨.ref f, H1, I1, rfl, h f c' t H1 e1 e2 e3 e4 e5 e6 e7⟩
theorem lam_calD {CX : CXT} {P : Program} {w : World} {K : PySem.W.Frag} {mg : Str → Option Value} {base : Heap} {N fr : List Str} {p : Str} {F : LF} {f t : Addr} {i : Int} {k : Nat} {sp : Sp} {S S0 : Hp} {ws : List (Option V)} (C : CloK S f F fr ws) (ht : S t = some (.tup [.int i])) (Sc : NScope N [p] fr F.scope) (bk : Backs CX P w K mg base)
    (hb : ∀ (pm ctv u : Value) (s : Shared) (o : Obj) (n : Nat), s.heap.get? t = some o → o.data = .seq #[u] n → BindsTo s (F.fd pm ctv) ⟨[], []⟩ [(p, u)]) (len : ∀ vs H Q E, sp vs H Q E → vs = []) (e0 : Ex S0 S) (n0 : ∀ y c, F.cl.lookup y = some c → S0 c = none)
    (hbody : ∀ (A : Around) (outer : List Env) (s : Shared) (H : Hp) (Q : VK) (E : XK), Room k (A.deeper (envF F.nf f s.heap.objs.size)) → Ex S H → Ex S0 (wn H (clN F)) → sp [] H Q E →
      ∃ t, PE (ncx CX P w K mg base N F.nf f A outer s (wn H (clN F)) (fun c d H3 => (∀ b, clN F b → H3 b = none) → E c d (mixN (clN F) H H3))) F.body t ∧ t (startF N [.int i] ws) (wn H (clN F)) (fun v H3 => (∀ b, clN F b → H3 b = none) → Q v (mixN (clN F) H H3))) :
    Cal P w K mg base CX (k + 1) f sp S := by
  refine ⟨⟨F, C.fn⟩, fun A outer s H us vs Q E eS hr e1 r hsp => ?_⟩
  obtain rfl := len _ _ _ _ hsp
  cases r
  have C' := C.mono eS
  have th : Thaw H (clN F) := ⟨fun b ⟨y, z⟩ => C'.all y b z⟩
  have lim : s.heap.NoLimit := e1.mod.nolimit.keeps fun b o e => (e1.bs b o e).1
  obtain ⟨od, sl, pm, ctv, ho⟩ := lamO_at e1.hok C'.fn
  obtain ⟨_, its, ri, o, ho2, hc2, n, hd2⟩ := (show ObjOk P w H s.heap t (.tup [.int i]) from e1.hok t _ (eS _ _ ht))
  cases ri with | cons ru rn =>
  cases rn
  rename_i u
  refine PySem.W.kla_callFunE hr.depth ho rfl Sc.co Sc.gen rfl (codeO_at e1.hok C'.co) (hb pm ctv u s o n ho2 hd2 _ _ _ _ ?_)
  refine wpAny_newFunctionEnv Sc.nocell (fun ⟨n, _⟩ hy => Sc.par n (by have z := List.mem_singleton.mp hy; rw [(Prod.mk.inj z).1]; exact List.mem_singleton.mpr rfl)) (fun h₁ hns hsb => ⟨lim.fresh _ hsb, ?_⟩) Sc.kind
  show codeAny _ _ (.expr F.body (envF F.nf f s.heap.objs.size)) _ _
  have kp : ∀ b o, s.heap.get? b = some o → h₁.get? b = some o := fun b o e => hsb.extBut b o (Nat.ne_of_lt (Heap.lt_size e)) (Heap.get?_push_of_some _ e)
  have x0 : Ex S0 (wn H (clN F)) := fun b o e => by
    rw [wn_ni fun ⟨y, z⟩ => by rw [n0 y b z] at e; cases e]
    exact eS _ _ (e0 _ _ e)
  obtain ⟨tb, ht, hq⟩ := hbody A outer s H Q E (hr.deeper _) eS x0 hsp
  have cells : CellsAt F.cl fr ws s.heap (wn H (clN F)) := ⟨C'.len, fun y c e => ⟨wn_in ⟨y, e⟩, let ⟨o, v, q1, q2⟩ := C'.all y c e; ⟨v, o, (e1.hok c _ q1).1, q2⟩⟩, C'.inj, fun i y e => let ⟨c, q1, q2⟩ := C'.has i y e; ⟨c, q1, fun v hv => let ⟨o, u, q3, q4, q5⟩ := q2 v hv; ⟨u, q5, o, (e1.hok c _ q3).1, q4⟩⟩⟩
  have I : Inv (ncx CX P w K mg base N F.nf f A outer s (wn H (clN F)) (fun c d H3 => (∀ b, clN F b → H3 b = none) → E c d (mixN (clN F) H H3))) [] (startF N [.int i] ws) (wn H (clN F)) { s with heap := h₁, toks := s.toks + ([p].zip [u]).length } := inv_startN (F := F.nf) Sc hr.hd (th.env e1) rfl (.cons ru .nil) cells hns kp
  refine PySem.W.kla_codeExpr (wpAny_mono (ht.run [] _ _ _ _ I hq) (fun v s' hv => ?_) fun e s' he => wpAny_mono he (fun _ s'' z => bk A outer s H _ E e s'' th e1 z) fun e' s'' z => bk A outer s H _ E e' s'' th e1 z)
  obtain ⟨v', H', J, rv, q⟩ := hv
  exact th.back e1 ⟨v', H', J.os, J.bare, J.base, J.hok, rv, q⟩
end Sw
namespace Sw
open PySem PySem.Spec PyProof.Rows L2 Evl LamX NdefX
/-! ### a comprehension in which the def's cells are known: frozen from its start to its end -/
/-- what is not frozen any more -/
theorem un_thaw {fr ex : List Addr} {H Hz H5 : Hp} {g g' : Heap} {N : Addr → Prop} (u : Un fr ex Hz H5 g g') (out : ∀ b, ¬ N b → Hz b = H b) (off : ∀ b, N b → H b = none) (inn : ∀ b, N b → ∃ o, g.get? b = some o ∧ Hz b = some (.frz o okT)) (at_ : ∀ b o, H5 b = some (.frz o okT) → g'.get? b = some o) : Un fr ex H (wn H5 N) g g' := by
  have cell : ∀ {b : Addr} {o : Obj}, N b → g.get? b = some o → H5 b = some (.frz o okT) ∧ g'.get? b = some o := fun {b o} n e => by
    obtain ⟨o', e1, e2⟩ := inn b n
    rw [e] at e1; cases e1
    have z := u.frzs b o okT e2
    exact ⟨z, at_ b o z⟩
  have zn : ∀ {b : Addr}, ¬ N b → H b = none → Hz b = none := fun n e => (out _ n).trans e
  refine ⟨?_, ?_, ?_, u.there, ?_, ?_, ?_⟩
  · intro b o e n h1 h2
    by_cases c : N b
    · exact (cell c e).2
    · exact u.keep b o e (zn c n) h1 h2
  · intro b o e n h1 h2
    by_cases c : N b
    · exact ⟨o.slots, (cell c e).2⟩
    · exact u.slot b o e (zn c n) h1 h2
  · intro b o e n h2
    by_cases c : N b
    · exact wn_in c
    · exact (wn_ni c).trans (u.free b o e (zn c n) h2)
  · intro b xs e
    have c : ¬ N b := fun z => by rw [off b z] at e; cases e
    exact (wn_ni c).trans (u.tups b xs ((out b c).trans e))
  · intro b o v e
    have c : ¬ N b := fun z => by rw [off b z] at e; cases e
    exact (wn_ni c).trans (u.frzs b o v ((out b c).trans e))
  · intro b ps e
    have c : ¬ N b := fun z => by rw [off b z] at e; cases e
    obtain ⟨more, z⟩ := u.tbls b ps ((out b c).trans e)
    exact ⟨more, (wn_ni c).trans z⟩
theorem hok_thaw {P : Program} {w : World} {H5 : Hp} {g : Heap} {N : Addr → Prop} (k : HOk P w H5 g) (fz : ∀ b, N b → ∃ o, H5 b = some (.frz o okT)) : HOk P w (wn H5 N) g := fun a o e => by
  obtain ⟨c, e'⟩ := wn_some e
  have nc : ∀ {b : Addr} {u : HO}, H5 b = some u → (∀ ob, u ≠ .frz ob okT) → ¬ N b := fun {b u} q ne n => by
    obtain ⟨ob, e1⟩ := fz b n
    rw [e1] at q
    exact ne ob (Option.some.inj q).symm
  refine (k a o e').stay (fun _ _ _ q => q) (fun b q => ?_) fun b xs q => ?_
  · rw [wn_ni (nc q fun _ z => nomatch z)]; exact q
  · rw [wn_ni (nc q fun _ z => nomatch z)]; exact q
/-- a block's start with more known -/
theorem blk_frz {X : Cx} {t3 t4 : Shared} {H3 Hz : Hp} {scope : Scope} {ce : Env} {fp : List Addr} {σ' : L2.St} {N : Addr → Prop} (J : Inv (X.blk t3 H3 scope ce fp) [] σ' H3 t4) (kp : ∀ b u, t3.heap.get? b = some u → t4.heap.get? b = some u) (out : ∀ b, ¬ N b → Hz b = H3 b) (off : ∀ b, N b → H3 b = none)
    (inn : ∀ b, N b → ∃ o, t3.heap.get? b = some o ∧ Hz b = some (.frz o okT)) (nb : ∀ b, N b → X.base.get? b = none) (ns : ∀ b, N b → b ∉ frs X.stack) (nl : ∀ b, N b → b ≠ ce.locals) (nc : ∀ y b, ce.cells.lookup y = some b → ¬ N b) : Inv (X.blk t3 Hz scope ce fp) [] σ' Hz t4 := by
  have k := J.ok
  refine ⟨⟨k.mod, k.kind, k.glob, k.blt, k.above, k.inj, k.has, k.cab, k.hd, k.frames, k.stk, k.exf, fun b o e => ⟨(k.bs b o e).1, ?_⟩, k.bsz, k.noex, k.exfs, k.funs, fun b e => ?_⟩, J.os, J.bare, Un.kept kp, J.loc, J.cell, ?_, fun y c e => ?_, fun p hp => absurd (show p ∈ ([] : List (Addr × Obj)) ++ [] from hp) (by simp), ?_, J.len⟩
  · have n : ¬ N b := fun z => by have q := nb b z; rw [e] at q; cases q
    exact (out b n).trans (k.bs b o e).2
  · have n : ¬ N b := fun z => ns b z e
    exact (out b n).trans (k.frf b e)
  · have n : ¬ N ce.locals := fun z => nl _ z rfl
    exact (out _ n).trans J.free
  · exact (out c (nc y c e)).trans (J.freeC y c e)
  · intro a o e
    by_cases n : N a
    · obtain ⟨ob, e1, e2⟩ := inn a n
      rw [e2] at e; cases e
      exact okT_ok (kp _ _ e1)
    · rw [out a n] at e
      have t : ∀ {b : Addr} {u : HO}, H3 b = some u → Hz b = some u := fun {b u} q => (out b fun z => by rw [off b z] at q; cases q).trans q
      exact (J.hok a o e).stay (fun _ _ _ q => q) (fun b q => t q) fun b xs q => t q
/-- its reading -/
def tLcF (X : Cx) (wi : TI) (g : TG) (te : TE) (vs : List Nat) : TE := fun σ H Q => wi σ H fun J H1 => ∀ Hz N, Frz X σ H1 Hz N → ∀ D, Hz D = none → ∃ W : Nat → Nat → Hp → Prop, (∃ m, W 0 m (upd Hz D (.lst []))) ∧ ∀ i m H, W i m H →
  (J.stop i H ∧ Q (.ref D) (wn H N)) ∨ (J.go i H ∧ ∃ Nx : Hp → Prop, (∀ H', Nx H' → ∃ m', m' < m ∧ W (i + 1) m' H') ∧ ∀ x H', J.yld i H x H' → g x (wipe σ vs) H' fun σ2 H2 => wipe σ2 vs = wipe σ vs ∧
    te σ2 H2 fun y H4 => ∃ acc, H4 D = some (.lst acc) ∧ acc.length < sizeLine ∧ Nx (upd H4 D (.lst (acc ++ [y]))))
section
variable {X : Cx}
theorem lcF_core {pn : List (Addr × Obj)} {t : Shared} {σ : L2.St} {H : Hp} {Q : VK} {el tg itr : Expr} {sc : Scope} {own : List (Str × Nat)} {po po' : Pos} {wi : TI} {g : TG} {te : TE} {Qf : Value → Shared → Prop} (calm : X.calm = true) (hfn : ∀ y, X.fn y = true) (J : Inv X pn σ H t) (pi : PI X tg itr wi) (ok : BlkOk X.N X.env.scope sc own) (nodup : X.N.Nodup) (nf : ∀ y ∈ sc.names, y.2 ≠ .free)
    (pg : ∀ (t : Shared) (H : Hp) (C : Addr) (cl : List (Str × Addr)) (fp : List Addr), PG (X.blk t H sc (compEnvC sc cl C X.env) fp) tg g) (pe : ∀ (t : Shared) (H : Hp) (C : Addr) (cl : List (Str × Addr)) (fp : List Addr), PE (X.blk t H sc (compEnvC sc cl C X.env) fp) el te) (fo : ∀ x, foldedSetIterable itr X.env x = pure x)
    (rd : tLcF X wi g te (own.map (·.2)) σ H Q) (fin : ∀ D C t' m H', Inv X pn σ H' t' → Q (.ref D) H' → t'.heap.Ns C m → FpOk X pn H' C → compPost (model X.prog X.w) X.A X.xe none Qf (.ref D) C (.ok .next) t') :
    wpAny (model X.prog X.w) X.A (comprehension (.ListComp el [⟨tg, itr, [], 0⟩] sc po) sc X.env po' (newList []) false (eval itr X.env) none) Qf X.xe t := by
  refine wpAny_comprehension_free (use := none) rfl fo (closure_ok fun y hy e => absurd e (nf y hy)) ok.kind (fun y hy e => by rw [ok.uniq y hy, e]) (thn (pi.run pn t σ H _ J rd) fun xv t1 hx => thn hx fun iv t2 h2 => ?_)
  obtain ⟨it, fp, tn, Jt, H2, e, J2, T, st2, f2, q⟩ := h2
  subst e
  obtain ⟨Hz, N, fz, e0, _⟩ := frz_env J2 hfn
  refine wpAny_newObj_type (newEnv_comp ?_) (Nat.zero_le _)
  generalize hD : t2.heap.objs.size = D
  have Dn : Hz D = none := e0.hok.fresh (Nat.le_of_eq hD)
  have Dn2 : H2 D = none := J2.hok.fresh (Nat.le_of_eq hD)
  obtain ⟨W, ⟨m0, w0⟩, turn⟩ := q Hz N fz D Dn
  -- the cells: where they stand
  have cellAt : ∀ b, N b → ∃ o, t2.heap.get? b = some o ∧ Hz b = some (.frz o okT) := fun b n => by
    obtain ⟨o, v, e1, _⟩ := fz.inn b n
    exact ⟨o, (e0.hok b _ e1).1, e1⟩
  have nlt : ∀ b, N b → b < t2.heap.objs.size := fun b n => let ⟨o, e1, _⟩ := cellAt b n; Heap.lt_size e1
  have nge : ∀ b, N b → X.s_0.heap.objs.size ≤ b := fun b n => let ⟨y, e1⟩ := (fz.iff b).mp n; J2.ok.cab y b (hfn y) e1
  generalize ht3 : ({ t2 with heap := t2.heap.push { cls := .type "list", data := .seq ([] : List Value).toArray } } : Shared) = t3
  have hp3 : t3.heap = t2.heap.push { cls := .type "list", data := .seq ([] : List Value).toArray } := by rw [← ht3]
  have k23 : ∀ b u, t2.heap.get? b = some u → t3.heap.get? b = some u := fun b u e => by rw [hp3]; exact Heap.get?_push_of_some _ e
  have J3 : Inv X pn σ (upd H2 D (.lst [])) t3 := by
    rw [← ht3]
    refine J2.laid (t' := t2.toks) (fun b u e => Heap.get?_push_of_some _ e) (Nat.le_of_eq hD) ⟨Nat.zero_le _, [], 0, .nil, ?_⟩
    rw [← hD]; exact Heap.get?_push_size _ rfl
  have neD : ∀ b, b < t2.heap.objs.size → b ≠ D := fun b z => by rw [← hD]; exact Nat.ne_of_lt z
  have lt2 : ∀ b ∈ fp, b < t2.heap.objs.size := fun b hb => let ⟨o, e, _⟩ := T.obj _ _ st2 b hb; Heap.lt_size e
  have sz3 : t3.heap.objs.size = t2.heap.objs.size + 1 := by rw [hp3, Heap.size_push]
  have fp3 : ∀ b ∈ fp, FpOk X pn (upd H2 D (.lst [])) b ∧ b < t3.heap.objs.size := fun b hb => by
    have z := lt2 b hb
    exact ⟨⟨(upd_ne (neD b z)).trans (f2 b hb).1, (f2 b hb).2⟩, by rw [sz3]; exact Nat.lt_succ_of_lt z⟩
  have st3 : tn 0 t3.heap := T.keep _ _ _ st2 fun b _ u e => k23 b u e
  have J4 := block_start J3 ok nodup fp3
  generalize hcl : cellsFrom (t3.heap.objs.size + 1) sc.names (cloFrom X.env.cells sc.names []) = cls at J4 ⊢
  have k34 : ∀ b u, t3.heap.get? b = some u → (pushCells (t3.heap.push { cls := .type "dict", data := .dict #[] }) sc.names).get? b = some u := fun b u e => pushCells_keeps _ _ _ _ (Heap.get?_push_of_some _ e)
  have cnew : ∀ y c, (compEnvC sc cls t3.heap.objs.size X.env).cells.lookup y = some c → ¬ N c := fun y c e n => by
    have e : cls.lookup y = some c := e
    rw [← hcl, ← Heap.size_push t3.heap { cls := .type "dict", data := .dict #[] }] at e
    rcases cells_mem (PySem.mem_of_lookup e) with hm | ⟨_, z, _⟩
    · rcases cloFrom_mem hm with hm | ⟨z, _⟩
      · cases hm
      · exact nf _ z rfl
    · rw [Heap.size_push, sz3] at z
      exact absurd (Nat.lt_of_lt_of_le (nlt c n) (Nat.le_trans (Nat.le_trans (Nat.le_succ _) (Nat.le_succ _)) z)) (Nat.lt_irrefl _)
  have J5 := blk_frz (Hz := upd Hz D (.lst [])) (N := N) J4 k34 (fun b n => by
      by_cases z : b = D
      · rw [z, upd_same, upd_same]
      · rw [upd_ne z, upd_ne z]; exact fz.out b n) (fun b n => (upd_ne (neD b (nlt b n))).trans (fz.off b n))
    (fun b n => let ⟨o, a1, a2⟩ := cellAt b n; ⟨o, k23 _ _ a1, (upd_ne (neD b (nlt b n))).trans a2⟩)
    (fun b n => by
      cases z : X.base.get? b with
      | none => rfl
      | some u => exact absurd (Nat.lt_of_lt_of_le (Heap.lt_size z) (Nat.le_trans J2.ok.bsz (nge b n))) (Nat.lt_irrefl _))
    (fun b n z => by
      rcases List.mem_cons.mp (J2.stkSub b z) with z | z
      · obtain ⟨y, e1⟩ := (fz.iff b).mp n
        exact J2.cne y b e1 z
      · obtain ⟨_, o, ho, _⟩ := J2.ok.funs.mem z
        exact absurd (Nat.lt_of_lt_of_le (Heap.lt_size ho) (nge b n)) (Nat.lt_irrefl _))
    (fun b n z => by have q1 : b = t3.heap.objs.size := z; exact absurd q1 (Nat.ne_of_lt (by rw [sz3]; exact Nat.lt_succ_of_lt (nlt b n)))) cnew
  have nfz : ∀ b ∈ fp, (upd Hz D (.lst [])) b = none := fun b hb => by
    have z := lt2 b hb
    rw [upd_ne (neD b z), fz.out b fun n => by obtain ⟨y, e1⟩ := (fz.iff b).mp n; exact (f2 b hb).2.2.2.2.1 y b e1 rfl]
    exact (f2 b hb).1
  show codeAny _ _ (.compStart (.ListComp el [⟨tg, itr, [], 0⟩] sc po) 0 (.ref it) (.ref D) (compEnvC sc cls t3.heap.objs.size X.env)) (compPost (model X.prog X.w) X.A X.xe none Qf (.ref D) t3.heap.objs.size) { t3 with heap := pushCells (t3.heap.push { cls := .type "dict", data := .dict #[] }) sc.names }
  have pg' := pg t3 (upd Hz D (.lst [])) t3.heap.objs.size cls fp
  have pe' := pe t3 (upd Hz D (.lst [])) t3.heap.objs.size cls fp
  generalize hce : compEnvC sc cls t3.heap.objs.size X.env = ce at J5 pg' pe' ⊢
  have cL : ce.locals = t3.heap.objs.size := by subst hce; rfl
  generalize hz3 : upd Hz D (.lst []) = Hz3 at J5 pg' pe' w0 nfz
  have hz3N : ∀ b, ¬ N b → Hz3 b = upd H2 D (.lst []) b := fun b n => by
    rw [← hz3]
    by_cases z : b = D
    · rw [z, upd_same, upd_same]
    · rw [upd_ne z, upd_ne z]; exact fz.out b n
  have hz3I : ∀ b, N b → ∃ o, t3.heap.get? b = some o ∧ Hz3 b = some (.frz o okT) := fun b n => by
    obtain ⟨o, a1, a2⟩ := cellAt b n
    exact ⟨o, k23 _ _ a1, by rw [← hz3]; exact (upd_ne (neD b (nlt b n))).trans a2⟩
  generalize ht4 : ({ t3 with heap := pushCells (t3.heap.push { cls := .type "dict", data := .dict #[] }) sc.names } : Shared) = t4 at J5 ⊢
  have st4 : tn 0 t4.heap := T.keep _ _ _ st3 fun b _ u e => by rw [← ht4]; exact k34 b u e
  have stood : ∀ {σ' : L2.St} {H' : Hp} {t' : Shared}, Inv (X.blk t3 Hz3 sc ce fp) [] σ' H' t' → (∀ b ∈ fp, H' b = none) → ∀ b ∈ fp, FpOk (X.blk t3 Hz3 sc ce fp) [] H' b := fun {σ' H' t'} K n b hb =>
    ⟨n b hb, (K.ok.exf b hb).1, K.ok.exfs b hb, .inl hb, fun x c e => (K.ok.exf b hb).2 x c e, fun p hp => absurd (show p ∈ ([] : List (Addr × Obj)) ++ [] from hp) (by simp)⟩
  have loop : codeAny (model X.prog X.w) X.A (.compLoop (.ListComp el [⟨tg, itr, [], 0⟩] sc po) 0 (.ref it) (.ref D) ce) (compPost (model X.prog X.w) X.A X.xe none Qf (.ref D) t3.heap.objs.size) t4 := by
    refine compLoop_any (fun n t' => ∃ i H', Inv (X.blk t3 Hz3 sc ce fp) [] (wipe σ (own.map (·.2))) H' t' ∧ tn i t'.heap ∧ (∀ b ∈ fp, H' b = none) ∧ W i n H') ?_ m0 ⟨0, Hz3, J5, st4, nfz, w0⟩
    rintro n t5 ⟨i, H5, K5, st5, n5, w5⟩
    rcases turn i n H5 w5 with ⟨stop, qq⟩ | ⟨gg, Nx, hNx, step⟩
    · refine thnF (T.done (X.blk t3 Hz3 sc ce fp) rfl rfl rfl calm i [] t5 _ H5 (fun _ _ => False) K5 (stood K5 n5) st5 stop) fun r t6 ⟨hr, K6⟩ => ?_
      subst hr
      have bs := K6.base
      have J7 : Inv X pn σ (wn H5 N) t6 := J3.call' (ch := fp) K6.os (un_thaw bs hz3N (fun b n => (upd_ne (neD b (nlt b n))).trans (fz.off b n)) hz3I fun b o e => (K6.hok b _ e).1) (hok_thaw K6.hok fun b n => let ⟨o, _, a2⟩ := hz3I b n; ⟨o, bs.frzs b o okT a2⟩) K6.bare
        fun b hb => ⟨(fp3 b hb).1.2.2.2.1, (fp3 b hb).1.2.1, (fp3 b hb).1.2.2.2.2.1, (fp3 b hb).1.2.2.2.2.2⟩
      have nC : H5 t3.heap.objs.size = none := by have z : H5 ce.locals = none := K6.free; rw [cL] at z; exact z
      have nN : ¬ N t3.heap.objs.size := fun z => absurd (nlt _ z) (by rw [sz3]; exact Nat.not_lt_of_le (Nat.le_succ _))
      obtain ⟨mm, hn, _⟩ := K6.loc
      have hn : t6.heap.Ns ce.locals mm := hn
      rw [cL] at hn
      exact fin D t3.heap.objs.size t6 mm _ J7 qq hn (J3.fpOk (Nat.le_refl _) ((wn_ni nN).trans nC))
    · refine thnF (T.item (X.blk t3 Hz3 sc ce fp) rfl rfl rfl calm i [] t5 _ H5 (fun _ _ => False) K5 (stood K5 n5) st5 gg) fun r t6 ⟨u, hr, h6⟩ => ?_
      subst hr
      refine thnF h6 fun _ t7 ⟨x, H7, K7, r7, y7, st7, n7⟩ => ?_
      have K7' := K7.pinned (stood K7 n7) (T.obj _ _ st7)
      refine thnF (pg'.run _ t7 _ H7 x u _ K7' r7 (step x H7 y7)) fun _ t8 ⟨σ8, H8, K8, hw8, q8⟩ => ?_
      refine thnF ((pts_nil (X := X.blk t3 Hz3 sc ce fp)).run _ t8 σ8 H8 (fun b G => b = true ∧ G = H8) K8 ⟨rfl, rfl⟩) fun b t9 ⟨H9, K9, hb, eG⟩ => ?_
      subst hb eG
      simp only [if_true]
      refine thnF (pe'.run _ t9 σ8 H9 _ K9 q8) fun z t10 ⟨yv, H10, K10, r10, acc, hD10, hz10, nx⟩ => ?_
      refine app_ok (X := X.blk t3 Hz3 sc ce fp) K10 hD10 hz10 r10 fun t11 K11 => ?_
      obtain ⟨m', hm, w'⟩ := hNx _ nx
      have pin' : ∀ b ∈ fp, ∀ o, t7.heap.get? b = some o → t11.heap.get? b = some o ∧ (upd H10 D (.lst (acc ++ [yv]))) b = none := fun b hb o e =>
        let z := K11.pin (b, o) (List.mem_append_right _ (List.mem_append_right _ (mem_pinsAt hb e))); ⟨z.1, z.2.1⟩
      have hl : (wipe σ (own.map (·.2))).length = σ8.length := by rw [← hw8]; exact wipe_length _ _
      exact ⟨m', hm, i + 1, _, (K11.unpinned (pins := [])).weak hl (fun j v e => by rw [← hw8] at e; exact (wipe_some e).1), T.keep _ _ _ st7 fun b hb o e => (pin' b hb o e).1,
        fun b hb => let ⟨o, e, _⟩ := T.obj _ _ st7 b hb; (pin' b hb o e).2, w'⟩
  exact codeAny_compStart_list loop (T.self X.A 0 _ _ _ st4 loop)
theorem pe_lcF {el tg itr : Expr} {sc : Scope} {own : List (Str × Nat)} {po : Pos} {wi : TI} {g : TG} {te : TE} (calm : X.calm = true) (nodup : X.N.Nodup) (pi : PI X tg itr wi) (ok : BlkOk X.N X.env.scope sc own) (nf : ∀ y ∈ sc.names, y.2 ≠ .free)
    (pg : ∀ (t : Shared) (H : Hp) (C : Addr) (cl : List (Str × Addr)) (fp : List Addr), PG (X.blk t H sc (compEnvC sc cl C X.env) fp) tg g) (pe : ∀ (t : Shared) (H : Hp) (C : Addr) (cl : List (Str × Addr)) (fp : List Addr), PE (X.blk t H sc (compEnvC sc cl C X.env) fp) el te)
    (hfn : ∀ y, X.fn y = true := by intro _; rfl) (fo : ∀ x, foldedSetIterable itr X.env x = pure x := by intro _; rfl) : PE X (.ListComp el [⟨tg, itr, [], 0⟩] sc po) (tLcF X wi g te (own.map (·.2))) := by
  refine ⟨fun pn t σ H Q J rd => ?_⟩
  rw [eval_ListComp]
  refine lcF_core calm hfn J pi ok nodup nf pg pe fo rd fun D C t' m H' K q hn ⟨f0, f1, f2, f3, f4, f5⟩ => ⟨m, hn, fun h'' sb => ?_⟩
  exact ⟨.ref D, H', K.turned (t' := t'.toks) (fun b u hb e => (sb.2 b hb).trans e) f0 f1 f3 f4 f5, rfl, q⟩
end
end Sw
namespace Sw
open PySem PySem.Spec PyProof.Rows L2 Evl
/-! ### an exception that leaves a comprehension -/
theorem note_frame {a b : Env} (h : a.frame = b.frame) (x : Value) : noteFrame x a = noteFrame x b := by
  unfold noteFrame PySem.frameOf
  rw [h]
theorem ff_but {h h' B G : Heap} : ∀ {l : List Env}, h.FunFrames B l → (∀ b ∈ frs l, h'.get? b = h.get? b) → (∀ b ∈ frs l, G.get? b = none) → h'.FunFrames G l
  | [], _, _, _ => trivial
  | e :: l, ⟨k, ⟨L, o, e1, _, e3, nf⟩, r⟩, hk, hn => by
    have m : L ∈ frs (e :: l) := by show L ∈ List.filterMap _ _; rw [List.filterMap_cons_some e1]; exact List.mem_cons_self
    have t : ∀ b, b ∈ frs l → b ∈ frs (e :: l) := fun b hb => by show b ∈ List.filterMap _ _; rw [List.filterMap_cons_some e1]; exact List.mem_cons_of_mem _ hb
    exact ⟨k, ⟨L, o, e1, hn L m, (hk L m).trans e3, nf⟩, ff_but r (fun b hb => hk b (t b hb)) fun b hb => hn b (t b hb)⟩
/-- an exception that a call let out, as it stands in the caller's air -/
theorem air_call {X : Cx} {pins : List (Addr × Obj)} {σ : L2.St} {H : Hp} {s s' : Shared} {E : XK} {W : WX} {u : Value} (I : Inv X pins σ H s) (hW : ∀ cls d H', E cls d H' → W cls d σ H') (c : L2.CX X.prog X.w X.stack H s E u s') :
    ∃ (a : Addr) (B : Heap) (sI : Shared) (pins' : List (Addr × Obj)) (σ' : L2.St) (H' : Hp) (cls : Value) (d : Option Addr),
      u = .ref a ∧ Inv X pins' σ' H' sI ∧ (∀ b o, sI.heap.get? b = some o → b ∉ frs X.stack → B.get? b = some o) ∧ sI.heap.UpToSlots s'.heap ∧
        HandSPX.FlyingZ B X.stack a (Zc cls d) s'.heap ∧ H' a = none ∧ s'.os = sI.os ∧ AllBare s'.gens ∧ W cls d σ' H' := by
  have c' := c
  obtain ⟨a, B, sI, p, σ', H', cls, d, e, J, nb, up, sky, r⟩ := XE.of_call (W := W) I hW c
  obtain ⟨a2, B2, H2, cls2, d2, e2, fl2, _⟩ := c'
  have ea : a2 = a := by rw [e] at e2; cases e2; rfl
  subst ea
  obtain ⟨_, _, _, oe, vs, T, oT, ts, q1, _, q2, q3, _, _, q4, q5, q6⟩ := fl2
  refine ⟨a2, B, sI, p, σ', H', cls, d, e, J, nb, up, ?_, r⟩
  rcases sky with ⟨_, _, _, oe', vs', w1, _, w2, w3⟩ | f | ⟨_, _, _, oe', vs', T', oT', ts', w1, _, w2, w3, _, _, w4, w5, w6⟩
  · rw [q1] at w1; cases w1
    rw [q2] at w2; cases w2
    rw [q3] at w3; cases w3
  · exact f
  · rw [q1] at w1; cases w1
    rw [q2] at w2; cases w2
    rw [q3] at w3; cases w3
    rw [q4] at w4; cases w4
    rw [q5] at w5; cases w5
    rw [q6] at w6; cases w6
theorem out_of_block {X : Cx} {pins pn pb : List (Addr × Obj)} {σ σb : L2.St} {H3 Hb : Hp} {s3 sb s' : Shared} {scope : Scope} {ce : Env} {fp : List Addr} {xe : Value → Shared → Prop} {E : XK} {Wo : WX} {u : Value} (tk : Takes X Wo) (hs : X.stack = X.env :: X.outer) (hf : X.env.frame = some X.env.locals)
    (cF : ce.frame = X.env.frame) (cL : ce.locals = s3.heap.objs.size) (I3 : Inv X pins σ H3 s3) (f3 : ∀ b ∈ fp, FpOk X pins H3 b) (I : Inv ((X.blk s3 H3 scope ce fp).tr pn xe) pb σb Hb sb) (hE : ∀ cls d H', E cls d H' → Wo cls d σ H')
    (c : L2.CX X.prog X.w X.stack Hb sb E u s') : notedBy (model X.prog X.w) X.A ce (fun e s'' => CompFails (model X.prog X.w) X.A X.xe ce e s'') u s' := by
  obtain ⟨a, B, sI, p', σ', H', cls, d, rfl, J, nb, up, fl, na, os, ag, w⟩ := air_call (X := (X.blk s3 H3 scope ce fp).tr pn xe) (W := fun cls d _ H => Wo cls d σ H) I (fun cls d H' q => hE cls d H' q) c
  have J' := J
  have I6 : Inv X pins σ H' sI := I3.call' (ch := fp) J.os J.base J.hok J.bare fun b hb => ⟨(f3 b hb).2.2.2.1, (f3 b hb).2.1, (f3 b hb).2.2.2.2.1, (f3 b hb).2.2.2.2.2⟩
  have nC : H' s3.heap.objs.size = none := by
    have z : H' ce.locals = none := J.free
    rw [cL] at z; exact z
  obtain ⟨m, hn, _⟩ := J.loc
  have hn : sI.heap.Ns ce.locals m := hn
  rw [cL] at hn
  obtain ⟨f0, f1, f2, f4, f5, f6⟩ := I3.fpOk (H' := H') (Nat.le_refl _) nC
  have cF' : ce.frame = some X.env.locals := cF.trans hf
  have nfr : s3.heap.objs.size ∉ frs X.stack := fun z => by
    rw [hs] at z
    have z : s3.heap.objs.size ∈ List.filterMap _ _ := z
    rw [List.filterMap_cons_some hf] at z
    rcases List.mem_cons.mp z with z | z
    · exact f1 z
    · exact f2 z
  have hfr : X.A.frames = some (X.env :: X.outer) := by rw [I6.ok.frames, hs]
  have fl : HandSPX.FlyingZ B (X.env :: X.outer) a (Zc cls d) s'.heap := by rw [← hs]; exact fl
  show wpAny _ X.A (noteFrame (.ref a) ce) _ _ s'
  rw [note_frame cF]
  refine HandSPX.looks_onZ Zc.steady hfr hf fl fun h3 hh up3 => ?_
  obtain ⟨k1, k2, k3, oe, vs, T, oT, ts, he, hz, hdd, h1, hnT, hTe, hT, hdT, ht3⟩ := hh
  obtain ⟨oC, es, ep, ho, hdC, hk⟩ := hn
  have nfC : ∀ vs, oC.data ≠ .fields vs := fun vs z => by rw [hdC] at z; cases z
  obtain ⟨sl, g1⟩ := up _ _ ho nfC
  obtain ⟨sl2, g2⟩ := up3 _ _ g1 nfC
  have eC : h3.get? s3.heap.objs.size = some { oC with slots := sl2 } := g2
  have bC : B.get? s3.heap.objs.size = some oC := nb _ _ ho nfr
  have aC : a ≠ s3.heap.objs.size := fun z => by
    rw [z, eC] at he; cases he
    exact nfC _ hdd
  have TC : T ≠ s3.heap.objs.size := fun z => by
    rw [z, eC] at hT; cases hT
    exact nfC _ hdT
  refine ⟨m, by rw [cL]; exact ⟨_, es, ep, eC, hdC, hk⟩, fun h4 m4 hn4 sb => ?_⟩
  rw [cL] at hn4 sb
  obtain ⟨o4, es4, ep4, ho4, hd4, _⟩ := hn4
  obtain ⟨G, r1, r2⟩ := restrict h4 fun b => (B.get? b).isSome
  have gN : ∀ b, B.get? b = none → G.get? b = none := fun b e => r2 b (by rw [e]; rfl)
  have gS : ∀ b o, b ≠ s3.heap.objs.size → B.get? b = some o → G.get? b = some o := fun b o n e => by
    rw [r1 b (by rw [e]; rfl), sb.2 b n]
    exact k1 b o e
  have gC : G.get? s3.heap.objs.size = some o4 := by rw [r1 _ (by rw [bC]; rfl)]; exact ho4
  have st : G.StaysIn h4 := fun b o e => by
    cases q : (B.get? b).isSome with
    | false => rw [r2 b q] at e; cases e
    | true => rw [r1 b q] at e; exact e
  have nfr' : s3.heap.objs.size ∉ frs (X.env :: X.outer) := by rw [← hs]; exact nfr
  have ff : h4.FunFrames G (X.env :: X.outer) := ff_but k3 (fun b hb => sb.2 b fun z => nfr' (z ▸ hb)) fun b hb => gN b (k3.mem hb).1
  have he4 : h4.get? a = some oe := (sb.2 a aC).trans he
  unfold PySem.passOn
  refine wpAny_bind (wpAny_field he4 hdd h1 ?_)
  rw [if_neg (show ¬ ((Value.ref T == Value.none) = true) from by simp)]
  have hT4 : HandSPX.TracedZ h4 G a (Zc cls d) (rawInt X.env.locals) := ⟨oe, vs, T, oT, ts, he4, hz, hdd, h1, gN T hnT, hTe, (sb.2 T TC).trans hT, hdT, ht3⟩
  have up4 : ∀ h5 : Heap, h4.UpToSlots h5 → (sI.heap.update s3.heap.objs.size fun _ => o4).UpToSlots h5 := fun h5 up5 b o e nf => by
    by_cases z : b = s3.heap.objs.size
    · subst z
      rw [Heap.get?_update_self _ ho (Obj.isFreed_of_dict hd4)] at e
      cases e
      exact up5 _ _ ho4 nf
    · rw [Heap.get?_update_other _ _ (Ne.symm z)] at e
      obtain ⟨l1, e1⟩ := up b o e nf
      obtain ⟨l2, e2⟩ := up3 b _ e1 nf
      have e3 := (sb.2 b z).trans e2
      obtain ⟨l3, e4⟩ := up5 b _ e3 nf
      exact ⟨l3, e4⟩
  have fin : wpAny (model X.prog X.w) X.A (setFlight (.ref a) (some X.env.locals)) (fun _ s4 => wpAny (model X.prog X.w) X.A (throw (.ref a) : Sem Value) (fun _ _ => False) X.xe s4) X.xe { s' with heap := h4 } := by
    refine HandSPX.setFlight_anyZ st ff hT4 fun h5 j1 j2 j3 up5 => wpAny_throw (tk _ _ ?_)
    refine ⟨a, G, { sI with heap := sI.heap.update s3.heap.objs.size fun _ => o4 }, pins, σ, H', cls, d, rfl, I6.turned (t' := sI.toks) (fun b o z e => (Heap.get?_update_other _ _ (Ne.symm z)).trans e) f0 f1 f4 f5 f6, fun b o e hb => ?_, up4 h5 up5, .inr (.inr ?_), na, os, ag, w⟩
    · have e : (sI.heap.update s3.heap.objs.size fun _ => o4).get? b = some o := e
      by_cases z : b = s3.heap.objs.size
      · subst z
        rw [Heap.get?_update_self _ ho (Obj.isFreed_of_dict hd4)] at e
        cases e
        exact gC
      · rw [Heap.get?_update_other _ _ (Ne.symm z)] at e
        exact gS b o z (nb b o e hb)
    · rw [hs]; exact ⟨j1, gN a k2, j2, j3⟩
  rw [cF']
  first
    | exact wpAny_bind (wpAny_pure (wpAny_bind fin))
    | exact wpAny_bind fin
end Sw
namespace Sw
open PySem PySem.Spec PyProof.Rows L2 Evl
/-! ### a comprehension whose element may raise -/
section
variable {X : Cx} {E : XK}
theorem lcR_core {pn : List (Addr × Obj)} {t : Shared} {σ : L2.St} {H : Hp} {Q : VK} {el tg itr : Expr} {sc : Scope} {own : List (Str × Nat)} {po po' : Pos} {wi : TI} {g : TG} {te : TE} {Qf : Value → Shared → Prop} (tk : Takes X (fun cls d _ H => E cls d H)) (hs : X.stack = X.env :: X.outer) (hf : X.env.frame = some X.env.locals)
    (calm : X.calm = true) (nodup : X.N.Nodup) (J : Inv X pn σ H t) (pi : PI X tg itr wi) (ok : BlkOk X.N X.env.scope sc own)
    (pg : ∀ (t : Shared) (H : Hp) (C : Addr) (cl : List (Str × Addr)) (fp : List Addr), PG (X.blk t H sc (compEnvC sc cl C X.env) fp) tg g)
    (pe : ∀ (t : Shared) (H : Hp) (C : Addr) (cl : List (Str × Addr)) (fp : List Addr) (pn : List (Addr × Obj)) (xe : Value → Shared → Prop), Passes (L2.CX X.prog X.w) ((X.blk t H sc (compEnvC sc cl C X.env) fp).tr pn xe) E → PE ((X.blk t H sc (compEnvC sc cl C X.env) fp).tr pn xe) el te)
    (fo : ∀ x, foldedSetIterable itr X.env x = pure x) (rd : tLc wi g tYes te (own.map (·.2)) σ H Q)
    (fin : ∀ D C t' m H', Inv X pn σ H' t' → Q (.ref D) H' → t'.heap.Ns C m → FpOk X pn H' C → ∃ m, t'.heap.Ns C m ∧ ∀ h', Heap.SameBut C t'.heap h' → Qf (.ref D) { t' with heap := h' }) :
    wpAny (model X.prog X.w) X.A (comprehension (.ListComp el [⟨tg, itr, [], 0⟩] sc po) sc X.env po' (newList []) false (eval itr X.env) none) Qf X.xe t := by
  have hfree : ∀ y ∈ sc.names, y.2 = .free → ∃ c, X.env.cells.lookup y.1 = some c := fun y hy e => by
    rcases ok.free y hy e with k | k
    · exact J.ok.has _ (.inl k)
    · exact J.ok.has _ (.inr k)
  refine comprehension_at (use := none) rfl fo (closure_ok hfree) ok.kind (fun y hy e => by rw [ok.uniq y hy, e]) (thn (pi.run pn t σ H _ J rd) fun xv t1 hx => thn hx fun iv t2 h2 => ?_)
  obtain ⟨it, fp, tn, Jt, H2, e, J2, T, st2, f2, q⟩ := h2
  subst e
  refine wpAny_newObj_type (newEnv_comp ?_) (Nat.zero_le _)
  generalize hD : t2.heap.objs.size = D
  have Dn2 : H2 D = none := J2.hok.fresh (Nat.le_of_eq hD)
  obtain ⟨W, ⟨m0, w0⟩, turn⟩ := q D Dn2
  generalize ht3 : ({ t2 with heap := t2.heap.push { cls := .type "list", data := .seq ([] : List Value).toArray } } : Shared) = t3
  have hp3 : t3.heap = t2.heap.push { cls := .type "list", data := .seq ([] : List Value).toArray } := by rw [← ht3]
  have k23 : ∀ b u, t2.heap.get? b = some u → t3.heap.get? b = some u := fun b u e => by rw [hp3]; exact Heap.get?_push_of_some _ e
  have J3 : Inv X pn σ (upd H2 D (.lst [])) t3 := by
    rw [← ht3]
    refine J2.laid (t' := t2.toks) (fun b u e => Heap.get?_push_of_some _ e) (Nat.le_of_eq hD) ⟨Nat.zero_le _, [], 0, .nil, ?_⟩
    rw [← hD]; exact Heap.get?_push_size _ rfl
  have neD : ∀ b, b < t2.heap.objs.size → b ≠ D := fun b z => by rw [← hD]; exact Nat.ne_of_lt z
  have lt2 : ∀ b ∈ fp, b < t2.heap.objs.size := fun b hb => let ⟨o, e, _⟩ := T.obj _ _ st2 b hb; Heap.lt_size e
  have sz3 : t3.heap.objs.size = t2.heap.objs.size + 1 := by rw [hp3, Heap.size_push]
  have fp3 : ∀ b ∈ fp, FpOk X pn (upd H2 D (.lst [])) b ∧ b < t3.heap.objs.size := fun b hb => by
    have z := lt2 b hb
    exact ⟨⟨(upd_ne (neD b z)).trans (f2 b hb).1, (f2 b hb).2⟩, by rw [sz3]; exact Nat.lt_succ_of_lt z⟩
  have st3 : tn 0 t3.heap := T.keep _ _ _ st2 fun b _ u e => k23 b u e
  have J4 := block_start J3 ok nodup fp3
  generalize hcl : cellsFrom (t3.heap.objs.size + 1) sc.names (cloFrom X.env.cells sc.names []) = cls at J4 ⊢
  have k34 : ∀ b u, t3.heap.get? b = some u → (pushCells (t3.heap.push { cls := .type "dict", data := .dict #[] }) sc.names).get? b = some u := fun b u e => pushCells_keeps _ _ _ _ (Heap.get?_push_of_some _ e)
  have nfz : ∀ b ∈ fp, (upd H2 D (.lst [])) b = none := fun b hb => (fp3 b hb).1.1
  show codeAny _ _ (.compStart (.ListComp el [⟨tg, itr, [], 0⟩] sc po) 0 (.ref it) (.ref D) (compEnvC sc cls t3.heap.objs.size X.env)) (compEnds (model X.prog X.w) X.A X.xe none Qf (.ref D) (compEnvC sc cls t3.heap.objs.size X.env)) { t3 with heap := pushCells (t3.heap.push { cls := .type "dict", data := .dict #[] }) sc.names }
  have pg' := pg t3 (upd H2 D (.lst [])) t3.heap.objs.size cls fp
  have pe' := pe t3 (upd H2 D (.lst [])) t3.heap.objs.size cls fp
  have cF : (compEnvC sc cls t3.heap.objs.size X.env).frame = X.env.frame := rfl
  generalize hce : compEnvC sc cls t3.heap.objs.size X.env = ce at J4 pg' pe' cF ⊢
  have cL : ce.locals = t3.heap.objs.size := by subst hce; rfl
  generalize hz3 : upd H2 D (.lst []) = H3 at J3 J4 pg' pe' w0 nfz fp3
  generalize ht4 : ({ t3 with heap := pushCells (t3.heap.push { cls := .type "dict", data := .dict #[] }) sc.names } : Shared) = t4 at J4 ⊢
  have st4 : tn 0 t4.heap := T.keep _ _ _ st3 fun b _ u e => by rw [← ht4]; exact k34 b u e
  have stood : ∀ {σ' : L2.St} {H' : Hp} {t' : Shared}, Inv (X.blk t3 H3 sc ce fp) [] σ' H' t' → (∀ b ∈ fp, H' b = none) → ∀ b ∈ fp, FpOk (X.blk t3 H3 sc ce fp) [] H' b := fun {σ' H' t'} K n b hb =>
    ⟨n b hb, (K.ok.exf b hb).1, K.ok.exfs b hb, .inl hb, fun x c e => (K.ok.exf b hb).2 x c e, fun p hp => absurd (show p ∈ ([] : List (Addr × Obj)) ++ [] from hp) (by simp)⟩
  have loop : codeAny (model X.prog X.w) X.A (.compLoop (.ListComp el [⟨tg, itr, [], 0⟩] sc po) 0 (.ref it) (.ref D) ce) (compEnds (model X.prog X.w) X.A X.xe none Qf (.ref D) ce) t4 := by
    refine compLoop_any (fun n t' => ∃ i H', Inv (X.blk t3 H3 sc ce fp) [] (wipe σ (own.map (·.2))) H' t' ∧ tn i t'.heap ∧ (∀ b ∈ fp, H' b = none) ∧ W i n H') ?_ m0 ⟨0, H3, J4, st4, nfz, w0⟩
    rintro n t5 ⟨i, H5, K5, st5, n5, w5⟩
    rcases turn i n H5 w5 with ⟨stop, qq⟩ | ⟨gg, Nx, hNx, step⟩
    · refine thnF (T.done (X.blk t3 H3 sc ce fp) rfl rfl rfl calm i [] t5 _ H5 (fun _ _ => False) K5 (stood K5 n5) st5 stop) fun r t6 ⟨hr, K6⟩ => ?_
      subst hr
      have J7 : Inv X pn σ H5 t6 := J3.call' (ch := fp) K6.os K6.base K6.hok K6.bare
        fun b hb => ⟨(fp3 b hb).1.2.2.2.1, (fp3 b hb).1.2.1, (fp3 b hb).1.2.2.2.2.1, (fp3 b hb).1.2.2.2.2.2⟩
      have nC : H5 t3.heap.objs.size = none := by have z : H5 ce.locals = none := K6.free; rw [cL] at z; exact z
      obtain ⟨mm, hn, _⟩ := K6.loc
      have hn : t6.heap.Ns ce.locals mm := hn
      rw [cL] at hn
      obtain ⟨m2, q1, q2⟩ := fin D t3.heap.objs.size t6 mm _ J7 qq hn (J3.fpOk (Nat.le_refl _) nC)
      exact ⟨m2, by rw [cL]; exact q1, fun h' sb => q2 h' (by rw [cL] at sb; exact sb)⟩
    · refine thnF (T.item (X.blk t3 H3 sc ce fp) rfl rfl rfl calm i [] t5 _ H5 (fun _ _ => False) K5 (stood K5 n5) st5 gg) fun r t6 ⟨u, hr, h6⟩ => ?_
      subst hr
      refine thnF h6 fun _ t7 ⟨x, H7, K7, r7, y7, st7, n7⟩ => ?_
      have K7' := K7.pinned (stood K7 n7) (T.obj _ _ st7)
      refine thnF (pg'.run _ t7 _ H7 x u _ K7' r7 (step x H7 y7)) fun _ t8 ⟨σ8, H8, K8, hw8, q8⟩ => ?_
      refine thnF ((pts_nil (X := X.blk t3 H3 sc ce fp)).run _ t8 σ8 H8 (fun b G => b = true ∧ G = H8) K8 ⟨rfl, rfl⟩) fun b t9 ⟨H9, K9, hb, eG⟩ => ?_
      subst hb eG
      simp only [if_true]
      generalize hxe : notedBy (model X.prog X.w) X.A ce (fun e s' => compEnds (model X.prog X.w) X.A X.xe none Qf (.ref D) ce (.error e) s') = xe
      have ps : Passes (L2.CX X.prog X.w) ((X.blk t3 H3 sc ce fp).tr ((X.blk t3 H3 sc ce fp).pn ++ ([] ++ pinsAt fp t7.heap)) xe) E := fun pp σp Hp sp e s' Ip c => by
        show xe e s'
        rw [← hxe]
        exact out_of_block (X := X) (σ := σ) (Wo := fun cls d _ H => E cls d H) tk hs hf cF cL J3 (fun b hb => (fp3 b hb).1) Ip (fun _ _ _ q => q) c
      refine wpAny_mono ((pe' _ xe ps).run [] t9 σ8 H9 _ (K9.toTry xe) q8) (fun z t10 ⟨yv, H10, K10t, r10, acc, hD10, hz10, nx⟩ => ?_) fun e s' q => q
      have K10 := K10t.ofTry K9.ok
      refine app_ok (X := X.blk t3 H3 sc ce fp) K10 hD10 hz10 r10 fun t11 K11 => ?_
      obtain ⟨m', hm, w'⟩ := hNx _ nx
      have pin' : ∀ b ∈ fp, ∀ o, t7.heap.get? b = some o → t11.heap.get? b = some o ∧ (upd H10 D (.lst (acc ++ [yv]))) b = none := fun b hb o e =>
        let z := K11.pin (b, o) (List.mem_append_right _ (List.mem_append_right _ (mem_pinsAt hb e))); ⟨z.1, z.2.1⟩
      have hl : (wipe σ (own.map (·.2))).length = σ8.length := by rw [← hw8]; exact wipe_length _ _
      exact ⟨m', hm, i + 1, _, (K11.unpinned (pins := [])).weak hl (fun j v e => by rw [← hw8] at e; exact (wipe_some e).1), T.keep _ _ _ st7 fun b hb o e => (pin' b hb o e).1,
        fun b hb => let ⟨o, e, _⟩ := T.obj _ _ st7 b hb; (pin' b hb o e).2, w'⟩
  exact codeAny_compStart_list loop (T.self X.A 0 _ _ _ st4 loop)
/-- as a value -/
theorem pe_lcR {el tg itr : Expr} {sc : Scope} {own : List (Str × Nat)} {po : Pos} {wi : TI} {g : TG} {te : TE} (tk : Takes X (fun cls d _ H => E cls d H)) (hs : X.stack = X.env :: X.outer) (hf : X.env.frame = some X.env.locals) (calm : X.calm = true) (nodup : X.N.Nodup) (pi : PI X tg itr wi) (ok : BlkOk X.N X.env.scope sc own)
    (pg : ∀ (t : Shared) (H : Hp) (C : Addr) (cl : List (Str × Addr)) (fp : List Addr), PG (X.blk t H sc (compEnvC sc cl C X.env) fp) tg g)
    (pe : ∀ (t : Shared) (H : Hp) (C : Addr) (cl : List (Str × Addr)) (fp : List Addr) (pn : List (Addr × Obj)) (xe : Value → Shared → Prop), Passes (L2.CX X.prog X.w) ((X.blk t H sc (compEnvC sc cl C X.env) fp).tr pn xe) E → PE ((X.blk t H sc (compEnvC sc cl C X.env) fp).tr pn xe) el te)
    (fo : ∀ x, foldedSetIterable itr X.env x = pure x := by intro _; rfl) : PE X (.ListComp el [⟨tg, itr, [], 0⟩] sc po) (tLc wi g tYes te (own.map (·.2))) := by
  refine ⟨fun pn t σ H Q J rd => ?_⟩
  rw [eval_ListComp]
  refine lcR_core tk hs hf calm nodup J pi ok pg pe fo rd fun D C t' m H' K q hn ⟨f0, f1, f2, f3, f4, f5⟩ => ⟨m, hn, fun h'' sb => ?_⟩
  exact ⟨.ref D, H', K.turned (t' := t'.toks) (fun b u hb e => (sb.2 b hb).trans e) f0 f1 f3 f4 f5, rfl, q⟩
end
end Sw
namespace Sw
open PySem PySem.Spec PyProof.Rows L2 Evl LamX NdefX
/-! ### an exception's own __init__ that begins with super().__init__(..) -/
/-- what the written part says of such a method: its object, its code, its cell, its class -/
structure SupF (P : Program) (K : PySem.W.Frag) (qual : Str) (st : Stmt) (f : Addr) (fd : FuncData) (cda cc D : Addr) : Prop where
  ex : ∃ (oc : Value) (od : Option Addr) (kV doc pm : Value) (an : Option Addr) (ct : Value) (osl : Array (Option Value)), fd = PySem.W.ksFn "__init__" qual (L2.defArgs st) (L2.defBody st) (L2.defScope st) .none kV doc pm an (.ref cda) ct cc ∧ K.lookup f = some ⟨oc, od, .func fd, osl⟩ ∧ PySem.W.codeIn K (.ref cda) qual = true
  code : ∃ (oc : Value) (od : Option Addr) (vs : Array Value) (sl : Array (Option Value)) (file : Str) (tf : Tok), K.lookup cda = some ⟨oc, od, .fields vs, sl⟩ ∧ vs[2]? = some (.str file tf) ∧ ((P.main.file : Str) == file) = true
  cell : ∃ (oc : Value) (od : Option Addr) (sl : Array (Option Value)), K.lookup cc = some ⟨oc, od, .cell (some (.ref D)), sl⟩
  any : PySem.W.nsIn K cStatics "thirdparty.any" = some none
  sup : PySem.W.ks_superIn K D D "__init__" = some (some (.builtin "ValueError.__init__"))
  sub : PySem.W.mroIn K D (.ref D) = some true
  subV : PySem.W.subIn K (.ref D) (.type "ValueError") = some true
  top : (P.main.scope.names.lookup ("super" : Str)).isSome = false
theorem inv_pin {X : Cx} {pins : List (Addr × Obj)} {σ : L2.St} {H : Hp} {s : Shared} {p : Addr × Obj} (I : Inv X pins σ H s) (h : s.heap.get? p.1 = some p.2 ∧ H p.1 = none ∧ p.1 ≠ X.env.locals ∧ p.1 ∉ X.fs ∧ ∀ v, p.2.data ≠ .cell v) : Inv X (p :: pins) σ H s := I.pins_of fun q hq => by
  rcases List.mem_cons.mp hq with rfl | hq
  · exact h
  · exact I.pin q (List.mem_append_right _ hq)
theorem inv_unpin {X : Cx} {pins : List (Addr × Obj)} {σ : L2.St} {H : Hp} {s : Shared} {p : Addr × Obj} (I : Inv X (p :: pins) σ H s) : Inv X pins σ H s := I.pins_of fun q hq => I.pin q (List.mem_append_right _ (List.mem_cons_of_mem _ hq))
/-- the bound initializer is called: the exception's arguments are set, nothing of them is told -/
theorem mw_call {X : Cx} {pins : List (Addr × Obj)} {σ : L2.St} {H : Hp} {s : Shared} {C a u : Addr} {us : List Value} {Q : Value → Shared → Prop} {E : Value → Shared → Prop} {A : Around} (T : OexC X.K C) (I : Inv X pins σ H s) (e : H a = some (exo a C none)) (hu : s.heap.get? u = some (PySem.W.kxs_mw "ValueError.__init__" a)) (hl : us.length ≤ sizeLine)
    (h : ∀ s', Inv X pins σ H s' → Q .none s') : wpAny (model X.prog X.w) A (call (.ref u) us) Q E s := by
  obtain ⟨nm, q, N, bs, bm, sn, sub, ab, col, dd, k0, k1, k2, k3, k5, hC, hbm⟩ := T.cls
  obtain ⟨t1, ho⟩ := exo_at I.hok e
  have kI := I.kIn _ _ hC
  have eu : upd H a (exo a C none) = H := by
    funext b
    by_cases hb : b = a
    · rw [hb, upd_same, e]
    · rw [upd_ne hb]
  obtain ⟨hp, g, d, t, os⟩ := s
  refine wpAny_call (codeAny_of_tree ?_)
  show wpAny _ A.in1 (callAny (.ref u) ⟨us, []⟩) _ _ _
  simp only [callAny]
  refine wpAny_bind (wpAny_load hu ?_)
  simp only [PySem.W.kxs_mw, show (Value.type "method-wrapper" == Value.type "method" || Value.type "method-wrapper" == Value.type "builtin_function_or_method" || Value.type "method-wrapper" == Value.type "method-wrapper") = true by decide, if_true]
  refine PySem.W.KFB.if_so (by decide) ?_
  refine wpAny_bind (PySem.W.check_bound_init PySem.F.excBase_ValueError.toExcCallFacts kI ho rfl ?_)
  refine wpAny_bind (wpAny_pure (wpAny_pure ?_))
  refine ⟨plainId_quiet PySem.F.excBase_ValueError.init.plain _, codeAny_builtin PySem.F.excBase_ValueError.initEntry ?_⟩
  refine PySem.W.exc_init_tree (cls := .ref C) (t0 := t1) (dv := none) (c2 := .none) (c3 := .none) (b4 := .bool false) ho hl fun h' k hx _ => ?_
  have J := I.write (t' := t) (x := a) (e := a) (o := exo a C none) (by rw [e]; exact True.intro) (.inl rfl) k ⟨_, hx⟩ (exo_ok hx)
  rw [eu] at J
  exact h _ J
/-- such a method keeps its promise -/
theorem sup_fn {CX : CXT} {P : Program} {w : World} {K : PySem.W.Frag} {mg : Str → Option Value} {base : Heap} {k : Nat} {f cda cc D : Addr} {fd : FuncData} {qual : Str} {st : Stmt} {N ps : List Str} {sp : Sp} {ar : Arg} {x : Expr} {rest : List Stmt} {p0 p1 p2 pos1 pos2 : Pos} {pl : Sem Bool}
    (F : SupF P K qual st f fd cda cc D) (T : OexC K D) (hst : L2.defBody st = .Expr (.Call (.Attribute (.Call (.Name "super" p0) [] [] p1) "__init__" p2) [x] [] pos1) pos2 :: rest) (S : NScope N ps ["__class__"] (L2.defScope st))
    (hself : ((L2.defArgs st).posonlyargs ++ (L2.defArgs st).args).head? = some ar) (hN0 : N[0]? = some ar.arg) (hka : (L2.defScope st).names.lookup ar.arg = some .local) (hks : (L2.defScope st).names.lookup ("super" : Str) = some .globalImplicit) (hmg : mg "super" = none)
    (hpl : ∀ env : Env, eval (.Call (.Attribute (.Call (.Name "super" p0) [] [] p1) "__init__" p2) [x] [] pos1) env = (do
      let ov ← attributeBase (.Call (.Name "super" p0) [] [] p1) "__init__" env (eval (.Call (.Name "super" p0) [] [] p1) env)
      standAt p2.atName
      let (f, first) ← holding [ov] (getMethod ov "__init__" pl)
      callWith pos1 f first (backTo pos1 (starEach [x] env)) [])) (hsw : ∀ (l : Nat) (env : Env), swapsWith (.Call (.Attribute (.Call (.Name "super" p0) [] [] p1) "__init__" p2) [x] [] pos1) none l env = pure false) (hsx : ∀ env : Env, starEach [x] env = (false, eval x env) :: starEach [] env)
    (len : ∀ vs H Q E, sp vs H Q E → vs.length = ps.length)
    (hbody : ∀ (A : Around) (outer : List Env) (s : Shared) (H : Hp) (vs : List V) (Q : VK) (E : XK), Room k (A.deeper (envF ⟨"__init__", qual, L2.defArgs st, L2.defBody st, L2.defScope st, [("__class__", cc)], cda⟩ f s.heap.objs.size)) → sp vs H Q E →
      ∃ (ta : TA) (tr : TS) (a : Addr) (ws : List V), PA (ncx CX P w K mg base N ⟨"__init__", qual, L2.defArgs st, L2.defBody st, L2.defScope st, [("__class__", cc)], cda⟩ f A outer s H E) [x] ta ∧ PSs (ncx CX P w K mg base N ⟨"__init__", qual, L2.defArgs st, L2.defBody st, L2.defScope st, [("__class__", cc)], cda⟩ f A outer s H E) rest tr ∧
        vs = .ref a :: ws ∧ H a = some (exo a D none) ∧ ta (startF N vs [none]) H (fun us H1 => us.length ≤ 1000 ∧ H1 a = some (exo a D none) ∧ tr { nx := fun _ H' => Q .non H', rt := Q } (startF N vs [none]) H1)) :
    FnOk P w K mg base CX (k + 1) f fd ps sp := by
  obtain ⟨oc, od, kV, doc, pm, an, ct, osl, rfl, lk, hcd⟩ := F.ex
  obtain ⟨oc1, od1, cvs, sl1, file, tf, hcode, hvs, hfile⟩ := F.code
  obtain ⟨oc2, od2, sl2, hcell⟩ := F.cell
  obtain ⟨nm, q, NN, bs, bm, sn, sub, ab, col, dd, k0, k1, k2, k3, k5, hC, hbm⟩ := T.cls
  have hcl : PySem.W.clsIn K D = some { name := nm, bases := bs, mro := .ref D :: bm, ns := NN, qualname := q, hasDict := true, slotNames := sn, subclasses := sub, abstract := ab, collection := col, hasDel := false } := by unfold PySem.W.clsIn; rw [hC] <;> rfl
  refine ⟨len, fun A outer s H args us vs Q E hr e0 hb r hsp => ?_⟩
  have hl := len _ _ _ _ hsp
  have KX : K.In s.heap := e0.mod.kin.keeps fun b o e => (e0.bs b o e).1
  have lim : s.heap.NoLimit := e0.mod.nolimit.keeps fun b o e => (e0.bs b o e).1
  have kc : (L2.defScope st).names.lookup ("__class__" : Str) = some .free := S.frk _ (by simp)
  refine ks_codeAny_call_defAt (body := .Expr (.Call (.Attribute (.Call (.Name "super" p0) [] [] p1) "__init__" p2) [x] [] pos1) pos2 :: rest) (binds := ps.zip us) hr.depth (KX _ _ lk) rfl lim (PySem.W.codeRec_of KX hcd) (by rw [← hst]) hb S.nocell (fun ⟨n, v⟩ hy => S.par n (List.of_mem_zip hy).1) (fun h₁ hns kp => ?_) S.co S.gen S.kind
  obtain ⟨ta, tr, a, ws, hx, hrest, rfl, ea, hq⟩ := hbody A outer s H vs Q E (hr.deeper _) hsp
  have hlk : ∀ (y : Str) (c : Addr), List.lookup y [(("__class__" : Str), cc)] = some c → y = "__class__" ∧ c = cc := fun y c e => by
    cases h : (y == ("__class__" : Str)) with
    | true => simp only [List.lookup, h, Option.some.injEq] at e; exact ⟨beq_iff_eq.mp h, e.symm⟩
    | false => simp [List.lookup, h] at e
  have cells : CellsAt [(("__class__" : Str), cc)] ["__class__"] [none] s.heap H := by
    refine ⟨rfl, fun y c e => ?_, fun y z c e1 e2 => (hlk y c e1).1.trans (hlk z c e2).1.symm, fun i y e => ?_⟩
    · rw [(hlk y c e).2]; exact ⟨(e0.bs _ _ (e0.mod.kin _ _ hcell)).2, _, _, KX _ _ hcell, rfl⟩
    · match i, e with
      | 0, e => cases e; exact ⟨cc, rfl, fun v hv => by cases hv⟩
  have I : Inv (ncx CX P w K mg base N ⟨"__init__", qual, L2.defArgs st, L2.defBody st, L2.defScope st, [("__class__", cc)], cda⟩ f A outer s H E) [] (startF N (V.ref a :: ws) [none]) H { s with heap := h₁, toks := s.toks + (ps.zip us).length } := inv_startN (F := ⟨"__init__", qual, L2.defArgs st, L2.defBody st, L2.defScope st, [("__class__", cc)], cda⟩) S hr.hd e0 hl r cells hns kp
  refine ks_wpAt_execs_cons (ks_wpAt_Expr_any (ks_wpAt_MethodCall (pl := pl) ?_ (hpl _)) I.quiet (hsw _ _))
  have ho := exo_at I.hok ea
  obtain ⟨t1, ho⟩ := ho
  obtain ⟨mb, hb1, hb2⟩ := I.mod.blt
  have hD := I.kIn _ _ hC
  refine ks_wpAt_super_base hks kc rfl rfl (I.kIn _ _ lk) rfl hself rfl (I.kIn _ _ hcode) rfl hvs hfile F.top ?_
  refine PySem.W.ks_loadName_global S.kind hks (Calls.loadGlobal_builtin (I.mod.glob.keeps I.bk) hmg (hb1.keeps I.bk) ((hb2 _ (by decide)).trans (by first | boot_by_name | rfl | kernel_rfl)) ⟨rfl, ?_⟩)
  refine wpAny_loadName_free S.kind kc rfl ⟨_, I.kIn _ _ hcell, rfl⟩ ?_
  obtain ⟨m, hn, hlo⟩ := I.loc
  obtain ⟨u, ru, lku⟩ := hlo 0 ar.arg (.ref a) hN0 rfl (.inl hka)
  obtain rfl : u = Value.ref a := ru
  have hv : m ar.arg = some (Value.ref a) := by
    rcases lku with ⟨_, z⟩ | ⟨z, _⟩
    · exact z
    · have z' : (L2.defScope st).names.lookup ar.arg = some .cell ∨ (L2.defScope st).names.lookup ar.arg = some .free := z
      rw [hka] at z'; rcases z' with z' | z' <;> cases z'
  refine wpAny_loadName_local S.kind hka hn hv ?_
  refine ks_wpAny_isType_cls hD rfl ⟨rfl, ?_⟩
  refine ks_wpAny_call_super hD rfl ho rfl (fun c z => by cases z) (PySem.W.looks_mroIn I.kIn F.sub) (fun h' eso kk => ?_)
  have I1 := I.kept (t' := s.toks + (ps.zip us).length) kk
  have ho1 := kk _ _ ho
  have LT : PySem.W.Looks (model P w) h' (typeOf (.ref a)) (.ref D) := fun A Q E s k q => wpAny_typeOf_ref (k _ _ ho1) q
  have LI : PySem.W.Looks (model P w) h' (isInstance (.ref a) (.type "ValueError")) true := LT.andThen (PySem.W.looks_subIn I1.kIn F.subV)
  have ne : a ≠ D := fun z => by
    subst z
    rw [ho] at hD
    cases hD
  have hsup : PySem.W.alongIn K "__init__" (((Value.ref D :: bm).dropWhile (· != Value.ref D)).drop 1) = some (some (.builtin "ValueError.__init__")) := by
    have z := F.sup
    unfold PySem.W.ks_superIn at z
    rw [hcl] at z
    exact z
  refine PySem.W.kxs_getMethod PySem.W.kxs_ValueError eso (PySem.W.looks_opaque I1.kIn F.any) (l₀ := .ref D :: bm) (fun A Q E s k q => wpAny_bind ((PySem.W.looks_clsIn I1.kIn hcl) A _ E s k (wpAny_pure q))) rfl I1.kIn hsup LI ne rfl ?_
  have I2 := I1.kept (t' := s.toks + (ps.zip us).length + 1) (h' := h'.push (PySem.W.kxs_mw "ValueError.__init__" a)) (fun b o e => Heap.get?_push_of_some _ e)
  have gu : (h'.push (PySem.W.kxs_mw "ValueError.__init__" a)).get? h'.objs.size = some (PySem.W.kxs_mw "ValueError.__init__" a) := Heap.get?_push_size _ rfl
  have nl : h'.objs.size ≠ s.heap.objs.size := Nat.ne_of_gt I1.lt
  have I3 := inv_pin (p := (h'.objs.size, PySem.W.kxs_mw "ValueError.__init__" a)) I2 ⟨gu, I1.hok.fresh (Nat.le_refl _), nl, I1.nofs (Nat.le_refl _), fun v z => nomatch z⟩
  have hxr := fun pos => hx.run pos _ _ _ _ _ I3 hq
  have hsx' := hsx (envF ⟨"__init__", qual, L2.defArgs st, L2.defBody st, L2.defScope st, [("__class__", cc)], cda⟩ f s.heap.objs.size)
  show wpAny _ _ (callWith pos1 (.ref h'.objs.size) [] (backTo pos1 (starEach [x] (envF ⟨"__init__", qual, L2.defArgs st, L2.defBody st, L2.defScope st, [("__class__", cc)], cda⟩ f s.heap.objs.size))) []) _ _ _
  have hx1 := hxr pos1
  have hx2 : wpAny (model P w) (A.deeper (envF ⟨"__init__", qual, L2.defArgs st, L2.defBody st, L2.defScope st, [("__class__", cc)], cda⟩ f s.heap.objs.size)) (spliced (backTo pos1 (starEach [x] (envF ⟨"__init__", qual, L2.defArgs st, L2.defBody st, L2.defScope st, [("__class__", cc)], cda⟩ f s.heap.objs.size)))) _ _ _ := hx1
  rw [hsx'] at hx2 ⊢
  refine PySem.W.kxs_callWith (i := "ValueError.__init__") (x := a) rfl (Calls.evalArgs_plain (wpAny_mono hx2 (fun vv s1 hs1 => ?_) fun e s' z => z))
  obtain ⟨vs1, H1, J1, r1, hz, ea1, q1⟩ := hs1
  have pu := (J1.pin _ (List.mem_append_right _ List.mem_cons_self)).1
  refine ⟨pu, ?_⟩
  refine mw_call T J1 ea1 pu (by rw [List.nil_append, ← Paired.length r1, sizeLine_eq]; omega) fun s2 J2 => ?_
  refine wpAt_of_wpAny (wpAny_mono (hrest.run [] _ _ _ _ (inv_unpin J2) q1) (fun fl s' hs => ?_) fun e s' z => z)
  have fin : ∀ {σ' : L2.St} {H' : Hp} {v : V} {u : Value}, Inv (ncx CX P w K mg base N ⟨"__init__", qual, L2.defArgs st, L2.defBody st, L2.defScope st, [("__class__", cc)], cda⟩ f A outer s H E) [] σ' H' s' → RelV v u → Q v H' → CE outer P w H s Q u s' :=
    fun {σ' H' v u} J rv q => ⟨v, H', J.os, J.bare, J.base, J.hok, rv, q⟩
  cases fl with
  | ret u =>
    obtain ⟨v, σ', H', J, rv, q⟩ := hs
    exact fin J rv q
  | next =>
    obtain ⟨σ', H', J, q⟩ := hs
    exact fin (v := V.non) (u := Value.none) J rfl q
  | brk =>
    obtain ⟨_, _, _, q⟩ := hs
    exact False.elim q
  | cont =>
    obtain ⟨_, _, _, q⟩ := hs
    exact False.elim q
end Sw
namespace Sw
open PySem PySem.Spec PyProof.Rows L2 Evl LamX NdefX
/-! ### promises of defs that may raise -/
section
variable {P : Program} {w : World} {K : PySem.W.Frag} {mg : Str → Option Value} {base : Heap} {CX : CXT} {k : Nat} {f : Addr} {fd : FuncData} {ps : List Str} {sp sp' : Sp}
theorem fn_lift (F : FnOk P w K mg base L2.CX0 k f fd ps sp) : FnOk P w K mg base CX k f fd ps sp := ⟨F.len, fun A outer s H args us vs Q E hr e0 hb r h => codeAny_mono (F.run A outer s H args us vs Q E hr e0 hb r h) fun r s' hq => by
  match r, hq with
  | .error e, hq => exact (show False from hq).elim
  | .ok (.ret u), hq => exact hq
  | .ok .next, hq => exact (show False from hq).elim
  | .ok .brk, hq => exact (show False from hq).elim
  | .ok .cont, hq => exact (show False from hq).elim⟩
def spOr (a b : Sp) : Sp := fun vs H Q E => a vs H Q E ∨ b vs H Q E
theorem fn_or (F : FnOk P w K mg base CX k f fd ps sp) (G : FnOk P w K mg base CX k f fd ps sp') : FnOk P w K mg base CX k f fd ps (spOr sp sp') := ⟨fun vs H Q E h => h.elim (F.len vs H Q E) (G.len vs H Q E), fun A outer s H args us vs Q E hr e0 hb r h => h.elim (F.run A outer s H args us vs Q E hr e0 hb r) (G.run A outer s H args us vs Q E hr e0 hb r)⟩
end
/-! ### a call, within a try, of what goes with an address -/
def tCalS (P : Program) (w : World) (K : PySem.W.Frag) (mg : Str → Option Value) (base : Heap) (CX : CXT) (k i : Nat) (E : L2.St → XK) : TE := fun σ H Q => ∃ f sp S, σ[i]? = some (some (.ref f)) ∧ Cal P w K mg base CX k f sp S ∧ Ex S H ∧ sp [] H Q (E σ)
theorem pe_calS (P : Program) (w : World) (K : PySem.W.Frag) (mg : Str → Option Value) (base : Heap) {X : Cx} {CX : CXT} {i j k : Nat} {x : Str} {E : L2.St → XK} {p pos : Pos} (h1 : X.prog = P) (h2 : X.w = w) (h3 : X.K = K) (h4 : X.mg = mg) (h5 : X.base = base) (hr : Room j X.A) (hk : k ≤ j) (hx : ∀ σ, PassesAt CX X σ (E σ)) (hN : X.N[i]? = some x) (hv : Vis X.env.scope x)
    (hd : (x == ("__debug__" : Str)) = false := by decide) (hcd : (x == ("__classdict__" : Str)) = false := by decide) : PE X (.Call (.Name x p) [] [] pos) (tCalS P w K mg base CX k i E) := by
  subst h1 h2 h3 h4 h5
  refine ⟨fun pins s σ H Q I ⟨f, sp, S, hs, C, eS, q⟩ => ?_⟩
  refine wpAny_Call_Name_kw (thn ((pe_var (pos := p) hN hv hd hcd).run pins s σ H (fun v H1 => v = .ref f ∧ H1 = H) I ⟨.ref f, hs, rfl, rfl⟩) fun u s1 ⟨v, H1, I1, r1, ev, eH⟩ => ?_)
  subst ev eH
  obtain rfl : u = Value.ref f := r1
  refine PySem.W.callWith_F0 (first := []) (lam_fnAt I1 C eS) (wpAny_call (codeAny_mono (C.2 X.A X.stack s1 H1 [] [] Q (E σ) eS (hr.mono hk) I1.env0 .nil q) fun r s' hq => ?_))
  match r, hq with
  | .error e, hq => exact hx σ pins H1 s1 e s' I1 hq
  | .ok (.ret u), hq => exact I1.after hq
  | .ok .next, hq => exact False.elim hq
  | .ok .brk, hq => exact False.elim hq
  | .ok .cont, hq => exact False.elim hq
/-! ### isinstance of the caught exception -/
structure ExI (K : PySem.W.Frag) (C : Addr) : Prop where
  cl : (PySem.W.clsIn K C).isSome = true
  ga : PySem.W.findIn K (.ref C) "__getattribute__" = some (some (.builtin "BaseException.__getattribute__"))
  gg : PySem.W.findIn K (.ref C) "__getattr__" = some none
  ex : PySem.W.subIn K (.ref C) (.type "BaseException") = some true
  hd : PySem.W.hasDictIn K C = true
  ca : PySem.W.findIn K (.ref C) "__class__" = some (some (.builtin "object.__class__"))
  cg : PySem.W.specialIn K (.builtin "object.__class__") "__get__" = some (some (.builtin "getset_descriptor.__get__"))
  ct : PySem.W.takesIn K (.builtin "object.__class__") = some true
  mo : PySem.W.mroIn K C (.type "object") = some true
theorem ExI.xf {K : PySem.W.Frag} {C : Addr} (T : ExI K C) : XfC K C := ⟨T.ga, T.gg, T.ex, T.hd⟩
def rIsX (K : PySem.W.Frag) (a : Addr) (cls : Value) (d : Option Addr) : List V → Hp → VK → Prop := fun xs H Q => ∃ (D : Addr) (c : V) (cv : Value) (b : Bool), cls = .ref D ∧ ExI K D ∧ xs = [.ref a, c] ∧ (∀ u, RelV c u → u = cv) ∧ PySem.W.kitOne K (.ref D) cv = some b ∧ (∀ dd, d = some dd → ∃ fs, H dd = some (.xd fs)) ∧ Q (.bl b) H
theorem call_isX {X : Cx} (K : PySem.W.Frag) (hK : X.K = K) {a : Addr} {cls : Value} {d : Option Addr} {oe : Obj} {pn : List (Addr × Obj)} (hz : Zc cls d oe) (hf : ∃ vs, oe.data = .fields vs) : CallR (X.suite a ((a, oe) :: pn)) (.builtin "isinstance") (rIsX K a cls d) := by
  subst hK
  intro pins s σ H xs us Q I r h
  obtain ⟨D, c, cv, b, rfl, T, rfl, hcv, e, hd, q⟩ := h
  cases r with
  | cons rx rr =>
    cases rr with
    | cons rt rr =>
      cases rr
      cases rx
      have ec := hcv _ rt
      subst ec
      have hget := (I.pin (a, oe) (List.mem_append.mpr (.inl List.mem_cons_self))).1
      obtain ⟨fv, hv⟩ := hf
      obtain ⟨oc, od, oda, osl⟩ := oe
      obtain ⟨z1, z2⟩ := hz
      dsimp only at z1 z2 hv
      subst z1 z2 hv
      have go : ∀ o2, PySem.W.InstAt s.heap a ⟨.ref D, od, .fields fv, osl⟩ D o2 → wpAny (model X.prog X.w) (X.suite a ((a, ⟨.ref D, od, .fields fv, osl⟩) :: pn)).A (call (.builtin "isinstance") [.ref a, _]) (EP (X.suite a ((a, ⟨.ref D, od, .fields fv, osl⟩) :: pn)) pins σ Q) (X.suite a ((a, ⟨.ref D, od, .fields fv, osl⟩) :: pn)).xe s := fun o2 J =>
        PySem.W.kia_one (PySem.W.kitx_exc T.cl T.ga T.gg T.ex T.ca T.cg T.ct T.mo) I.kIn J e (fun z => nomatch z) fun tk => ⟨.bl b, H, I.kept (t' := tk) fun _ _ z => z, rfl, q⟩
      cases od with
      | none => exact go none ⟨hget, rfl, rfl, trivial⟩
      | some dd =>
        obtain ⟨fs, hfs⟩ := hd dd rfl
        obtain ⟨mA, hns, _⟩ := (I.hok dd _ hfs : ObjOk _ _ _ _ dd (.xd fs))
        obtain ⟨o, es, ep, ho, _⟩ := hns
        exact go (some o) ⟨hget, rfl, rfl, ho⟩
theorem ev_isX {K : PySem.W.Frag} {σ : L2.St} {H : Hp} {te tc : TE} {a D dd : Addr} {c : V} {cv : Value} {b : Bool} {fs : List (Str × V)} (T : ExI K D) (he : Ev te σ H (.ref a)) (hc : Ev tc σ H c) (hcv : ∀ u, RelV c u → u = cv) (hb : PySem.W.kitOne K (.ref D) cv = some b) (hd : H dd = some (.xd fs)) :
    Ev (tCB (rIsX K a (.ref D) (some dd)) (tCons te (tCons tc tNil))) σ H (.bl b) := fun H1 e Q q => he H1 e _ fun H2 e2 => hc H2 (e.trans e2) _ fun H3 e3 => ⟨D, c, cv, b, rfl, T, rfl, hcv, hb, fun d1 z => by cases z; exact ⟨fs, e3 _ _ (e2 _ _ (e _ _ hd))⟩, q H3 (e2.trans e3)⟩
/-! ### count and index of flat items -/
theorem eq_count {y : V} : ∀ {ys : List V} {us : List Value}, Vals ys us → ys.all flatV = true → us.countP (eqU y) = ys.countP (fun z => eqV z y)
  | _, _, .nil, _ => rfl
  | _, _, .cons (a := z) (b := u) r rs, f => by
    rw [List.all_cons, Bool.and_eq_true] at f
    rw [List.countP_cons, List.countP_cons, eq_count rs f.2, eqU_of r f.1]
def rCntF (K : PySem.W.Frag) : V → List V → Hp → VK → Prop := fun x xs H Q => ∃ (p : Addr) (ys : List V) (y : V), x = .ref p ∧ xs = [y] ∧ SqL K H p ys ∧ flatV y = true ∧ ys.all flatV = true ∧ Q (.int (ys.countP (fun z => eqV z y) : Nat)) H
theorem mt_lcountF {X : Cx} (K : PySem.W.Frag) (hK : X.K = K) : MtR X "list.count" (rCntF K) := by
  subst hK
  intro pins s σ H x xs v us Q I rx rxs ⟨p, ys, y, ex, exs, hs, fy, fys, q⟩
  subst ex exs
  cases rx
  obtain ⟨uy, rfl, ry⟩ := rxs.one
  obtain ⟨its, rv, ⟨⟨cls, dd, data, sl⟩, n, ho, hc, hdn, hd⟩, hlen⟩ := I.list hs
  simp only at hc hd
  subst hc hd
  refine call_meets PySem.F.slot_list_count ⟨_, ho, rfl⟩ PySem.F.entry_list_count (PySem.F.args_list_count_2 _ _) (SeqAt.list_countAt p its.toArray n dd sl uy (eqU y)) ⟨ho, fun u hu => mem_eqAt ry fy rv fys u (by simpa using hu), ?_⟩
  refine ⟨.int (ys.countP (fun z => eqV z y) : Nat), H, I.tok _, ⟨s.toks, ?_⟩, q⟩
  show Value.int ((its.toArray.toList.countP (eqU y) : Nat) : Int) s.toks = Value.int ((ys.countP (fun z => eqV z y) : Nat) : Int) s.toks
  rw [show its.toArray.toList = its from rfl, eq_count rv fys]
theorem mt_indexK {X : Cx} (K : PySem.W.Frag) (hK : X.K = K) : MtR X "list.index" (rIndex K) := by
  subst hK; exact mt_index
theorem pe_bmK {X : Cx} (K : PySem.W.Frag) {o e : Expr} {es : List Expr} {to : TE} {t : TA} {name : Str} {apos cpos : Pos} {Ty id : String} {r : V → List V → Hp → VK → Prop} (hK : X.K = K) (pa : PlainAttrs Ty) (slot : Slot Ty name id) (hty : typeOf (.builtin id) = pure (.type "method_descriptor")) (hm : MtR X id r) (ho : PE X o to) (ha : PA X (e :: es) t)
    (hbase : attributeBase o name X.env (eval o X.env) = eval o X.env := by rfl)
    (hfew : ((backTo cpos (starEach (e :: es) X.env)).all (fun x => !x.1) && (backToKw cpos (keywordEach [] X.env)).all (fun x => x.1.isSome) && decide ((e :: es).length + ([] : List Keyword).length + (if ([] : List Keyword).isEmpty then 0 else 1) < 30)) = true := by rfl)
    (hline : (apos.endLine == cpos.line) = true := by rfl) (hs : starEach (e :: es) X.env = (false, eval e X.env) :: starEach es X.env := by rfl) (hplain : (backTo cpos (starEach es X.env)).any (·.1) = false := by rfl) : PE X (.Call (.Attribute o name apos) (e :: es) [] cpos) (tBM K Ty r to t) := by
  subst hK; exact pe_bm pa slot hty hm ho ha hbase hfew hline hs hplain
end Sw
namespace Sw
open PySem PySem.Spec PyProof.Rows L2 Evl
theorem fnR_of {P : Program} {w : World} {K : PySem.W.Frag} {mg : Str → Option Value} {base : Heap} {CX : CXT} {k : Nat} {f : Addr} {fd : FuncData} {ps : List Str} {sp : Sp} (F : FnOk P w K mg base CX k f fd ps sp) (hb : Binds K fd ps []) : FnR P w K mg base CX k f sp :=
  (F.raw hb .nil).imp fun vs H Q E h => by rw [List.append_nil]; exact h
end Sw
namespace Sw
open PySem PySem.Spec PyProof.Rows L2 Evl SX
/-! ### texts: a sign many times; a number with commas -/
theorem fold_rep (c : Nat) : ∀ (k : Nat) (a : Array Nat), (List.replicate k #[c]).foldl (· ++ ·) a = a ++ (List.replicate k c).toArray
  | 0, a => by simp
  | k + 1, a => by
    rw [List.replicate_succ, List.foldl_cons, fold_rep c k, List.replicate_succ]
    apply Array.ext'
    simp
def rTimes : R2 := fun x y H Q => ∃ (c : Nat) (n : Int), x = .str (S [c]) ∧ y = .int n ∧ -1000000 ≤ n ∧ n ≤ 1000000 ∧ Q (.str (S (List.replicate n.toNat c))) H
theorem op_times {X : Cx} : OpR X (binaryOp .Mult) rTimes := by
  intro pn t σ H x y v u Q J rx ry h
  obtain ⟨c, n, rfl, rfl, n0, n1, q⟩ := h
  obtain ⟨a, rfl⟩ := rx
  obtain ⟨b, rfl⟩ := ry
  have len1 : (S [c]).length = 1 := S_len [c]
  refine P.mul_str ?_ (fun h1 _ => ?_) (fun h1 _ => ?_) ?_
  · simp only [Bool.or_eq_false_iff, decide_eq_false_iff_not]
    omega
  · rw [len1]
    have : (1 : Int) ≤ (2 ^ 63 - 1) / n := by
      rw [Int.le_ediv_iff_mul_le (by omega)]
      omega
    omega
  · rw [len1]
    unfold Builtin.Str.tooLong sizeLine
    exact decide_eq_false (by omega)
  · by_cases h1 : n < 1
    · rw [if_pos h1]
      have e : n.toNat = 0 := by omega
      rw [e] at q
      exact ⟨by decide, .str (S []), H, J.tok _, ⟨_, rfl⟩, q⟩
    · rw [if_neg h1]
      have l0 : ((S [c]).length == 0) = false := rfl
      rw [l0, Bool.or_false]
      by_cases h2 : n = 1
      · subst h2
        exact ⟨.str (S [c]), H, J, ⟨_, rfl⟩, q⟩
      · have e : (n == 1) = false := by simpa using h2
        rw [e, if_neg Bool.false_ne_true]
        have e2 : (⟨(List.replicate n.toNat (S [c]).cps).foldl (· ++ ·) #[]⟩ : Str) = S (List.replicate n.toNat c) := by
          show (⟨(List.replicate n.toNat #[c]).foldl (· ++ ·) #[]⟩ : Str) = _
          rw [fold_rep, Array.empty_append]
        rw [e2]
        exact ⟨by rw [S_len, List.length_replicate]; unfold sizeLine; omega, .str _, H, J.tok _, ⟨_, rfl⟩, q⟩
theorem ev_times {σ : L2.St} {H : Hp} {ta tb : TE} {c : Nat} {n : Int} (ha : Ev ta σ H (.str (S [c]))) (hb : Ev tb σ H (.int n)) (h0 : -1000000 ≤ n) (h1 : n ≤ 1000000) : Ev (tOp rTimes ta tb) σ H (.str (S (List.replicate n.toNat c))) := fun H1 e Q q =>
  ha H1 e _ fun H2 e2 => hb H2 (e.trans e2) _ fun H3 e3 => ⟨c, n, rfl, rfl, h0, h1, q H3 (e2.trans e3)⟩
/-- the groups of three of a row of signs -/
def G3 : Nat → List Nat → List Nat
  | 0, ds => ds
  | k + 1, ds => if ds.length ≤ 3 then ds else G3 k (ds.take (ds.length - 3)) ++ (44 :: ds.drop (ds.length - 3))
def G (n : Nat) : List Nat := G3 ((TL.numL n).length + 1) (TL.numL n)
theorem g3_fuel : ∀ (k m : Nat) (ds : List Nat), ds.length < k → ds.length < m → G3 k ds = G3 m ds
  | 0, _, ds, h, _ => absurd h (Nat.not_lt_zero _)
  | _ + 1, 0, ds, _, h => absurd h (Nat.not_lt_zero _)
  | k + 1, m + 1, ds, h1, h2 => by
    unfold G3
    by_cases h : ds.length ≤ 3
    · rw [if_pos h, if_pos h]
    · rw [if_neg h, if_neg h, g3_fuel k m _ (by rw [List.length_take]; omega) (by rw [List.length_take]; omega)]
theorem gfr_eq (f : Nat → Nat → Nat → List Nat → Int → List Nat → List Nat) (hf : ∀ (k : Nat) (ds : List Nat) (r : Int) (out : List Nat), f 3 44 (k + 1) ds r out =
    (if ((ds.drop (min 3 (max (max (ds.length : Int) r) 1).toNat)).isEmpty && decide (r - (min 3 (max (max (ds.length : Int) r) 1).toNat : Nat) ≤ 0)) = true then List.replicate ((min 3 (max (max (ds.length : Int) r) 1).toNat) - ds.length) 48 ++ (ds.take (min 3 (max (max (ds.length : Int) r) 1).toNat)).reverse ++ out
      else f 3 44 k (ds.drop (min 3 (max (max (ds.length : Int) r) 1).toNat)) (r - (min 3 (max (max (ds.length : Int) r) 1).toNat : Nat) - 1) (44 :: (List.replicate ((min 3 (max (max (ds.length : Int) r) 1).toNat) - ds.length) 48 ++ (ds.take (min 3 (max (max (ds.length : Int) r) 1).toNat)).reverse ++ out)))) :
    ∀ (k : Nat) (ds out : List Nat) (r : Int), r ≤ 0 → 1 ≤ ds.length → ds.length < k → f 3 44 k ds.reverse r out = G3 k ds ++ out
  | 0, ds, out, r, _, h1, h2 => absurd h2 (Nat.not_lt_zero _)
  | k + 1, ds, out, r, hr, h1, h2 => by
    rw [hf]
    unfold G3
    have e0 : (max (max ((ds.reverse.length : Nat) : Int) r) 1).toNat = ds.length := by rw [List.length_reverse]; omega
    by_cases h : ds.length ≤ 3
    · rw [if_pos h]
      have e1 : min 3 (max (max ((ds.reverse.length : Nat) : Int) r) 1).toNat = ds.length := by rw [e0]; omega
      simp only [e1]
      have e2 : ds.reverse.take ds.length = ds.reverse := List.take_of_length_le (by simp)
      have e3 : ds.reverse.drop ds.length = [] := List.drop_eq_nil_of_le (by simp)
      have e4 : (r - ((ds.length : Nat) : Int) ≤ 0) := by omega
      rw [e2, e3, List.reverse_reverse, List.length_reverse, Nat.sub_self]
      simp [e4]
    · rw [if_neg h]
      have e1 : min 3 (max (max ((ds.reverse.length : Nat) : Int) r) 1).toNat = 3 := by rw [e0]; omega
      simp only [e1]
      have e2 : (ds.reverse.take 3).reverse = ds.drop (ds.length - 3) := by rw [List.take_reverse, List.reverse_reverse]
      have e3 : ds.reverse.drop 3 = (ds.take (ds.length - 3)).reverse := by rw [List.drop_reverse]
      have e4 : (3 - ds.reverse.length) = 0 := by rw [List.length_reverse]; omega
      rw [e2, e3, e4]
      have e5 : (ds.take (ds.length - 3)).reverse.isEmpty = false := by
        rw [List.isEmpty_eq_false_iff_exists_mem]
        cases hd : (ds.take (ds.length - 3)).reverse with
        | nil =>
          have z := congrArg List.length hd
          rw [List.length_reverse, List.length_take, List.length_nil] at z
          omega
        | cons x l => exact ⟨x, List.mem_cons_self⟩
      rw [e5, Bool.false_and, if_neg Bool.false_ne_true, gfr_eq f hf k _ _ _ (by omega) (by rw [List.length_take]; omega) (by rw [List.length_take]; omega)]
      simp
/-- the text of a number with commas, as int.__format__ makes it -/
def commaSpec : Builtin.Float.FormatSpec := { align := 62, grouping := some ',' }
theorem comma_parse : Builtin.Float.parseFormatSpec (("," : Str)).cps.toList "int" 62 = .ok commaSpec := by rfl
theorem digits_le {n : Nat} (h : n < 10 ^ 40) : (TL.numL n).length ≤ 40 := TL.numL_len (by decide) h
theorem g3_len : ∀ (k : Nat) (ds : List Nat), (G3 k ds).length ≤ 2 * ds.length
  | 0, ds => by unfold G3; omega
  | k + 1, ds => by
    unfold G3
    by_cases h : ds.length ≤ 3
    · rw [if_pos h]; omega
    · rw [if_neg h, List.length_append, List.length_cons, List.length_drop]
      have z := g3_len k (ds.take (ds.length - 3))
      rw [List.length_take] at z
      omega
theorem g_len {n : Nat} (h : n < 10 ^ 40) : (G n).length ≤ 80 := by
  have a := g3_len ((TL.numL n).length + 1) (TL.numL n)
  have b := digits_le h
  unfold G
  omega
theorem comma_small {n : Nat} (h : n < 10 ^ 40) : ((n : Nat) : Int).natAbs.log2 < 1920 := by
  rcases Nat.eq_zero_or_pos n with z | z
  · subst z; decide
  · have e : ((n : Nat) : Int).natAbs = n := Int.natAbs_natCast n
    rw [e]
    exact (Nat.log2_lt (by omega)).mpr (Nat.lt_of_lt_of_le h (by decide))
theorem gives_comma {n : Nat} (h : n < 10 ^ 40) (t u : Tok) : Gives (Builtin.«int.__format__» ⟨[.int (n : Int) t, .str "," u], []⟩) (.str (S (G n))) := by
  intro prog w A R s hq
  have hne : ((("," : Str)).length == 0) = false := rfl
  have hasc : (((("," : Str)).cps.toList.drop 1).any (· ≥ 128) || ((("," : Str)).cps.getD 0 0 ≥ 128 && !([60, 62, 61, 94] : List Nat).contains ((("," : Str)).cps.getD 1 0))) = false := rfl
  unfold Builtin.«int.__format__»
  simp only [selfAndOne, noKeywords, Builtin.Int.intOfSelf, asInt?, asStr?, List.isEmpty_nil, if_true, pure_bind, bind_pure, bind_assoc, hne, hasc, Bool.false_eq_true, if_false]
  have n1 : ¬ ((Value.str (Str.ofString ",") u == Value.none) = true) := Bool.false_ne_true
  rw [if_neg n1]
  refine wpAny_bind (wpAny_typeNameOf (T := "str") (typeIs_str _ _ _) (by decide) fun _ => ?_)
  refine wpAny_bind (wpAny_typeNameOfCut_int ?_)
  have hp : Builtin.Float.parseFormatSpec (Str.ofString ",").cps.toList "int" 62 = .ok commaSpec := comma_parse
  rw [hp]
  have c1 : commaSpec.type.getD (if ((Str.ofString ",").cps.back? == some 0) = true then 0 else 100) = 100 := rfl
  dsimp only
  rw [c1, if_pos (by decide)]
  show wpAny _ _ (do let r ← Builtin.overDigitLimit? ((n : Nat) : Int); _) _ _ _
  rw [PySem.overDigitLimit_small (comma_small h)]
  refine wpAny_bind (wpAny_pure ?_)
  have key : ∀ z : Str, z = S (G n) → wpAny (model prog w) A.in1 (retStr z) (fun fin s' =>
      match fin with
      | Fin.done f => R (Except.ok f) s'
      | Fin.again c' => c'.quiet = true ∧ codeAny (model prog w) A c' R s') (fun e s' => R (Except.error e) s') s := fun z e => by
    subst e
    exact (Gives.of_eq (m := Made.str (S (G n))) rfl : Gives (retStr (S (G n))) _) prog w A R s hq
  refine key _ ?_
  have e0 : decide (((n : Nat) : Int) < 0) = false := decide_eq_false (by omega)
  rw [e0]
  conv => lhs; whnf
  have hm : (List.map (fun c => (if ((100 : Nat) == 88) = true then Char.toUpper c else c).toNat) (Nat.toDigits 10 ((n : Nat) : Int).natAbs)) = TL.numL n := by
    rw [Int.natAbs_natCast]; rfl
  have ne : TL.numL n ≠ [] := TL.numL_ne n
  have pos : 1 ≤ (TL.numL n).length := List.length_pos_iff.mpr ne
  rw [hm]
  simp only [commaSpec]
  simp [ne]
  unfold G
  refine Eq.trans (gfr_eq _ (fun k ds r out => rfl) _ _ [] 0 (Int.le_refl 0) pos (Nat.lt_succ_self _)) (List.append_nil _)
/-- f"{n:,}" -/
def tFmtC (te : TE) : TE := fun σ H Q => te σ H fun x H1 => ∃ n : Nat, x = .int (n : Int) ∧ n < 10 ^ 40 ∧ Q (.str (S (G n))) H1
theorem pe_fmtC {X : Cx} {e : Expr} {te : TE} {j : Nat} {p1 p2 po : Pos} (he : PE X e te) : PE X (.FormattedValue e (-1) (some (.JoinedStr [.Constant (.str ",") j p1] p2)) po) (tFmtC te) := by
  refine ⟨fun pn t σ H Q J rd => wpAny_FormattedValue_spec (thn (he.run pn t σ H _ J rd) fun v t1 hv => ?_)⟩
  obtain ⟨x, H1, J1, rx, n, rfl, hn, q⟩ := hv
  obtain ⟨k, rfl⟩ := rx
  refine wpAny_JoinedStr_one (Calls.Constant_str ?_)
  refine ⟨_, _, rfl, wpAny_formatField_spec rfl (fun s' => typeIs_int s' _ k) F.slot_int_format F.entry_int_format F.args_int_format_2 (fun u => gives_comma hn k u) ?_ (by decide) ?_⟩
  · exact ⟨.str (S (G n)), H1, (J1.tok _).tok _, ⟨_, rfl⟩, q⟩
  · rw [S_len]; exact Nat.le_trans (g_len hn) (by decide)
theorem ev_fmtC {σ : L2.St} {H : Hp} {te : TE} {n : Nat} (he : Ev te σ H (.int (n : Int))) (hn : n < 10 ^ 40) : Ev (tFmtC te) σ H (.str (S (G n))) := fun H1 e Q q => he H1 e _ fun H2 e2 => ⟨n, rfl, hn, q H2 e2⟩
end Sw
namespace Sw
open PySem PySem.Spec PyProof.Rows SX
/-! ### the lines of a report, as rows of signs -/
def isD (c : Nat) : Bool := decide (48 ≤ c) && decide (c ≤ 57)
theorem isD_iff {c : Nat} : isD c = true ↔ 48 ≤ c ∧ c ≤ 57 := by unfold isD; simp
def noC (c : Nat) : Bool := c != 44
def padL (w : Nat) (s : List Nat) : List Nat := List.replicate (w - s.length) 32 ++ s
def lineW : List Nat → List (List Nat) → List Nat
  | w :: ws, c :: cs => padL w c ++ lineW ws cs
  | _, _ => []
def lst (l : List Nat) : List Nat := l.dropWhile (· == 32)
def cellsW : List Nat → List Nat → List (List Nat)
  | [], _ => []
  | w :: ws, l => lst (l.take w) :: cellsW ws (l.drop w)
def ws5 : List Nat := [26, 14, 14, 14, 14]
def fitW : List Nat → List Nat → Prop
  | w :: ws, n :: ns => (G n).length ≤ w ∧ fitW ws ns
  | [], [] => True
  | _, _ => False
def LineOk (l ns : List Nat) : Prop := fitW ws5 ns ∧ lineW ws5 (ns.map G) = l
theorem allD (n : Nat) : ∀ c ∈ TL.numL n, isD c = true := fun c hc => isD_iff.mpr (TL.numL_digits n c hc)
theorem g3_mem : ∀ (k : Nat) (ds : List Nat), (∀ c ∈ ds, isD c = true) → ∀ c ∈ G3 k ds, c = 44 ∨ isD c = true
  | 0, ds, h, c, hc => .inr (h c hc)
  | k + 1, ds, h, c, hc => by
    unfold G3 at hc
    by_cases z : ds.length ≤ 3
    · rw [if_pos z] at hc; exact .inr (h c hc)
    · rw [if_neg z] at hc
      rcases List.mem_append.mp hc with q | q
      · exact g3_mem k _ (fun c q => h c (List.mem_of_mem_take q)) c q
      · rcases List.mem_cons.mp q with q | q
        · exact .inl q
        · exact .inr (h c (List.mem_of_mem_drop q))
theorem g_mem {n c : Nat} (h : c ∈ G n) : c = 44 ∨ isD c = true := g3_mem _ _ (allD n) c h
theorem g3_fil (f : Nat → Bool) (f44 : f 44 = false) : ∀ (k : Nat) (ds : List Nat), (∀ c ∈ ds, f c = true) → (G3 k ds).filter f = ds
  | 0, ds, h => List.filter_eq_self.mpr h
  | k + 1, ds, h => by
    unfold G3
    by_cases z : ds.length ≤ 3
    · rw [if_pos z]; exact List.filter_eq_self.mpr h
    · rw [if_neg z, List.filter_append, g3_fil f f44 k _ (fun c q => h c (List.mem_of_mem_take q)), List.filter_cons, f44, if_neg Bool.false_ne_true, List.filter_eq_self.mpr (fun c q => h c (List.mem_of_mem_drop q)), List.take_append_drop]
theorem noC_d {c : Nat} (h : isD c = true) : noC c = true := by
  have := isD_iff.mp h
  unfold noC
  simp
  omega
theorem g_isD (n : Nat) : (G n).filter isD = TL.numL n := g3_fil isD rfl _ _ (allD n)
theorem g_noC (n : Nat) : (G n).filter noC = TL.numL n := g3_fil noC rfl _ _ fun c h => noC_d (allD n c h)
theorem g3_head : ∀ (k : Nat) (ds : List Nat), (G3 k ds).head? = ds.head?
  | 0, ds => rfl
  | k + 1, ds => by
    unfold G3
    by_cases z : ds.length ≤ 3
    · rw [if_pos z]
    · rw [if_neg z, List.head?_append, g3_head k]
      cases ds with
      | nil => simp at z
      | cons c r =>
        have e : (c :: r).length - 3 = ((c :: r).length - 4) + 1 := by simp at z ⊢; omega
        rw [e, List.take_succ_cons]; rfl
theorem g_head (n : Nat) : ∃ c r, G n = c :: r ∧ isD c = true := by
  have e := g3_head ((TL.numL n).length + 1) (TL.numL n)
  cases h : TL.numL n with
  | nil => exact absurd h (TL.numL_ne n)
  | cons c r =>
    have hc : isD c = true := allD n c (by rw [h]; exact List.mem_cons_self)
    rw [h] at e
    cases hg : G n with
    | nil => unfold G at hg; rw [h] at hg; rw [hg] at e; cases e
    | cons c' r' =>
      unfold G at hg; rw [h] at hg; rw [hg] at e
      cases e
      exact ⟨c, r', rfl, hc⟩
theorem g3_last : ∀ (k : Nat) (ds : List Nat), (G3 k ds).getLast? = ds.getLast?
  | 0, ds => rfl
  | k + 1, ds => by
    unfold G3
    by_cases z : ds.length ≤ 3
    · rw [if_pos z]
    · rw [if_neg z]
      have e : ds = ds.take (ds.length - 3) ++ ds.drop (ds.length - 3) := (List.take_append_drop _ _).symm
      have ne : ds.drop (ds.length - 3) ≠ [] := fun q => by
        have := congrArg List.length q
        rw [List.length_drop, List.length_nil] at this
        omega
      conv => rhs; rw [e]
      rw [List.getLast?_append, List.getLast?_append]
      obtain ⟨x, hx⟩ : ∃ x, (ds.drop (ds.length - 3)).getLast? = some x := by
        cases q : (ds.drop (ds.length - 3)).getLast? with
        | none => exact absurd (List.getLast?_eq_none_iff.mp q) ne
        | some x => exact ⟨x, rfl⟩
      have e2 : (44 :: ds.drop (ds.length - 3)).getLast? = some x := by rw [List.getLast?_cons, hx]; rfl
      rw [e2, hx]; rfl
theorem g_last (n : Nat) : ∃ r c, G n = r ++ [c] ∧ isD c = true := by
  have e := g3_last ((TL.numL n).length + 1) (TL.numL n)
  obtain ⟨c, hc⟩ : ∃ c, (TL.numL n).getLast? = some c := by
    cases q : (TL.numL n).getLast? with
    | none => exact absurd (List.getLast?_eq_none_iff.mp q) (TL.numL_ne n)
    | some x => exact ⟨x, rfl⟩
  rw [hc] at e
  obtain ⟨r, hr⟩ := List.getLast?_eq_some_iff.mp (show (G n).getLast? = some c from e)
  exact ⟨r, c, hr, allD n c (List.mem_of_getLast? hc)⟩
theorem lst_rep : ∀ (k : Nat) (l : List Nat), lst (List.replicate k 32 ++ l) = lst l
  | 0, l => rfl
  | k + 1, l => by
    rw [List.replicate_succ, List.cons_append]
    unfold lst
    rw [List.dropWhile_cons, if_pos (by decide)]
    exact lst_rep k l
theorem lst_g (n : Nat) : lst (G n) = G n := by
  obtain ⟨c, r, e, hc⟩ := g_head n
  have := isD_iff.mp hc
  rw [e]
  unfold lst
  rw [List.dropWhile_cons, if_neg]
  simp
  omega
theorem lst_pad (w n : Nat) : lst (padL w (G n)) = G n := by
  unfold padL
  rw [lst_rep, lst_g]
theorem padL_len {w : Nat} {s : List Nat} (h : s.length ≤ w) : (padL w s).length = w := by
  unfold padL
  rw [List.length_append, List.length_replicate]
  omega
theorem line_cells : ∀ (ws ns : List Nat), fitW ws ns → cellsW ws (lineW ws (ns.map G)) = ns.map G
  | [], [], _ => rfl
  | w :: ws, n :: ns, h => by
    obtain ⟨h1, h2⟩ := h
    have l1 := padL_len h1
    show lst ((padL w (G n) ++ lineW ws (ns.map G)).take w) :: cellsW ws ((padL w (G n) ++ lineW ws (ns.map G)).drop w) = _
    rw [List.take_append_of_le_length (by omega), List.take_of_length_le (by omega), lst_pad, List.drop_append_of_le_length (by omega), List.drop_of_length_le (by omega), List.nil_append, line_cells ws ns h2]
    rfl
  | [], _ :: _, h => h.elim
  | _ :: _, [], h => h.elim
theorem val_ltN : ∀ (k : Nat) (d : List Nat), d.length = k → (∀ c ∈ d, isD c = true) → NumText.digitsVal d < 10 ^ k
  | 0, d, e, _ => by
    rw [List.length_eq_zero_iff.mp e]; decide
  | k + 1, d, e, h => by
    rcases List.eq_nil_or_concat d with rfl | ⟨r, c, rfl⟩
    · cases e
    · rw [List.concat_eq_append] at e h ⊢
      have lr : r.length = k := by rw [List.length_append, List.length_singleton] at e; omega
      have h1 := val_ltN k r lr fun x hx => h x (List.mem_append_left _ hx)
      have h2 := isD_iff.mp (h c (List.mem_append_right _ List.mem_cons_self))
      rw [NumText.digitsVal_snoc, Nat.pow_succ]
      omega
theorem val_lt (d : List Nat) (h : ∀ c ∈ d, isD c = true) : NumText.digitsVal d < 10 ^ d.length := val_ltN _ d rfl h
theorem fil_sub {f : Nat → Bool} {l : List Nat} : ((lst l).filter f).length ≤ (l.filter f).length :=
  ((List.dropWhile_sublist (· == 32) (l := l)).filter f).length_le
/-- a number whose text is longer than its column can't stand there -/
theorem fit_of {w : Nat} {l rest : List Nat} {n : Nat} (hl : padL w (G n) ++ rest = l) (h1 : (lst (l.take w)).filter noC ≠ []) (h2 : ∀ c ∈ (lst (l.take w)).filter noC, isD c = true) (hn : n = NumText.digitsVal ((lst (l.take w)).filter noC)) : (G n).length ≤ w := by
  refine Decidable.byContradiction fun hlt => ?_
  have z : w < (G n).length := by omega
  have e1 : padL w (G n) = G n := by
    unfold padL
    rw [show w - (G n).length = 0 by omega]; rfl
  have e2 : l.take w = (G n).take w := by rw [← hl, e1, List.take_append_of_le_length (by omega)]
  obtain ⟨r, c, hr, hc⟩ := g_last n
  have lr : (G n).length = r.length + 1 := by rw [hr, List.length_append]; rfl
  have e3 : ((G n).filter noC).length = (((G n).take w).filter noC).length + (((G n).drop w).filter noC).length := by
    conv => lhs; rw [← List.take_append_drop w (G n)]
    rw [List.filter_append, List.length_append]
  have e4 : 1 ≤ (((G n).drop w).filter noC).length := by
    have m : c ∈ ((G n).drop w).filter noC := List.mem_filter.mpr ⟨by rw [hr, List.drop_append_of_le_length (by omega)]; exact List.mem_append_right _ List.mem_cons_self, noC_d hc⟩
    exact List.length_pos_iff.mpr (List.ne_nil_of_mem m)
  rw [g_noC] at e3
  have e5 : ((lst (l.take w)).filter noC).length ≤ (((G n).take w).filter noC).length := by rw [← e2]; exact fil_sub
  have e6 : (TL.numL n).length ≤ ((lst (l.take w)).filter noC).length := TL.numL_len (List.length_pos_iff.mpr h1) (by rw [hn]; exact val_lt _ h2)
  omega
theorem prog_fit : ∀ (ws l : List Nat), (∀ c ∈ cellsW ws l, c.filter noC ≠ [] ∧ ∀ x ∈ c.filter noC, isD x = true) → lineW ws (((cellsW ws l).map fun c => NumText.digitsVal (c.filter noC)).map G) = l → fitW ws ((cellsW ws l).map fun c => NumText.digitsVal (c.filter noC))
  | [], l, _, _ => trivial
  | w :: ws, l, hc, hl => by
    have h0 := hc _ List.mem_cons_self
    have hl' : padL w (G (NumText.digitsVal ((lst (l.take w)).filter noC))) ++ lineW ws (((cellsW ws (l.drop w)).map fun c => NumText.digitsVal (c.filter noC)).map G) = l := hl
    have f := fit_of hl' h0.1 h0.2 rfl
    refine ⟨f, prog_fit ws (l.drop w) (fun c q => hc c (List.mem_cons_of_mem _ q)) ?_⟩
    have key : ∀ R : List Nat, (padL w (G (NumText.digitsVal ((lst (l.take w)).filter noC))) ++ R).drop w = R := fun R => by
      have pl := padL_len f
      rw [List.drop_append_of_le_length (by omega), List.drop_of_length_le (by omega), List.nil_append]
    have k2 := key (lineW ws (((cellsW ws (l.drop w)).map fun c => NumText.digitsVal (c.filter noC)).map G))
    rw [hl'] at k2
    exact k2.symm
/-- the numbers of a cell, as the law reads it -/
def cellOk (c : List Nat) : Prop := c.filter isD ≠ [] ∧ G (NumText.digitsVal (c.filter isD)) = c
theorem cellOk_g (n : Nat) : cellOk (G n) := by
  unfold cellOk
  rw [g_isD, TL.numL_val]
  exact ⟨TL.numL_ne n, rfl⟩
theorem law_fit : ∀ (ws l : List Nat), (∀ c ∈ cellsW ws l, cellOk c) → fitW ws ((cellsW ws l).map fun c => NumText.digitsVal (c.filter isD))
  | [], l, _ => trivial
  | w :: ws, l, hc => by
    have h0 := hc _ List.mem_cons_self
    refine ⟨?_, law_fit ws (l.drop w) fun c q => hc c (List.mem_cons_of_mem _ q)⟩
    rw [h0.2]
    exact Nat.le_trans (List.dropWhile_sublist _).length_le (by rw [List.length_take]; omega)
theorem cellsW_len : ∀ (ws l : List Nat), (cellsW ws l).length = ws.length
  | [], _ => rfl
  | w :: ws, l => congrArg (· + 1) (cellsW_len ws (l.drop w))
theorem fit_len : ∀ {ws ns : List Nat}, fitW ws ns → ns.length = ws.length
  | [], [], _ => rfl
  | _ :: _, _ :: _, h => congrArg (· + 1) (fit_len h.2)
  | [], _ :: _, h => h.elim
  | _ :: _, [], h => h.elim
theorem LineOk.cells {l ns : List Nat} (h : LineOk l ns) : cellsW ws5 l = ns.map G := by rw [← h.2]; exact line_cells _ _ h.1
theorem LineOk.len {l ns : List Nat} (h : LineOk l ns) : ns.length = 5 := fit_len h.1
theorem LineOk.uniq {l ns ms : List Nat} (h : LineOk l ns) (h' : LineOk l ms) : ns = ms := by
  have e := h.cells.symm.trans h'.cells
  have f : ∀ a : List Nat, (a.map G).map (fun c => NumText.digitsVal (c.filter isD)) = a := fun a => by
    rw [List.map_map]
    have : ((fun c => NumText.digitsVal (c.filter isD)) ∘ G) = id := by
      funext n
      show NumText.digitsVal ((G n).filter isD) = n
      rw [g_isD, TL.numL_val]
    rw [this, List.map_id]
  rw [← f ns, e, f ms]
/-- what the program finds good is good -/
theorem line_prog {l : List Nat} (hc : ∀ c ∈ cellsW ws5 l, c.filter noC ≠ [] ∧ ∀ x ∈ c.filter noC, isD x = true) (hl : lineW ws5 (((cellsW ws5 l).map fun c => NumText.digitsVal (c.filter noC)).map G) = l) : LineOk l ((cellsW ws5 l).map fun c => NumText.digitsVal (c.filter noC)) := ⟨prog_fit _ _ hc hl, hl⟩
theorem line_law {l : List Nat} (hc : ∀ c ∈ cellsW ws5 l, cellOk c) (hl : lineW ws5 (((cellsW ws5 l).map fun c => NumText.digitsVal (c.filter isD)).map G) = l) : LineOk l ((cellsW ws5 l).map fun c => NumText.digitsVal (c.filter isD)) := ⟨law_fit _ _ hc, hl⟩
theorem LineOk.cell {l ns : List Nat} (h : LineOk l ns) {c : List Nat} (hc : c ∈ cellsW ws5 l) : ∃ n ∈ ns, c = G n := by
  rw [h.cells] at hc
  obtain ⟨n, hn, e⟩ := List.mem_map.mp hc
  exact ⟨n, hn, e.symm⟩
end Sw
namespace Sw
open PySem PySem.Spec PyProof.Rows SX Builtin Builtin.Str
/-! ### methods of texts, over rows of signs -/
theorem sl_mid {l : List Nat} {i j : Int} (h0 : 0 ≤ i) (h1 : i ≤ j) : Txt.slice (S l) (some i) (some j) = S ((l.drop i.toNat).take (j - i).toNat) := by
  have cl : ∀ {a b : Int}, 0 ≤ a → 0 ≤ b → strSliceIndices (some a) (some b) 1 (S l).length = strSliceIndices (some (min a (S l).length)) (some (min b (S l).length)) 1 (S l).length := fun {a b} ha hb => by
    have q1 : ¬ a < 0 := by omega
    have q2 : ¬ b < 0 := by omega
    have q3 : ¬ min a ((S l).length : Int) < 0 := by omega
    have q4 : ¬ min b ((S l).length : Int) < 0 := by omega
    have q5 : (1 : Int) > 0 := by decide
    simp only [strSliceIndices, q1, q2, q3, q4, q5, if_false, if_true]
    rw [Int.min_assoc, Int.min_self, Int.min_assoc, Int.min_self]
  have e1 : Txt.slice (S l) (some i) (some j) = Txt.slice (S l) (some (min i (S l).length)) (some (min j (S l).length)) := by
    unfold Txt.slice
    rw [cl h0 (by omega)]
  have e2 := beq_iff_eq.mp (slice_closesL (x := S l) (i := min i (S l).length) (j := min j (S l).length) (by omega) (by omega) (by omega))
  rw [e1, e2]
  refine TL.ext_tl ?_
  show (l.drop (min i ((S l).length : Int)).toNat).take (min j ((S l).length : Int) - min i ((S l).length : Int)).toNat = (l.drop i.toNat).take (j - i).toNat
  rw [S_len]
  by_cases hi : i ≤ (l.length : Int)
  · rw [Int.min_eq_left hi]
    by_cases hj : j ≤ (l.length : Int)
    · rw [Int.min_eq_left hj]
    · rw [Int.min_eq_right (by omega), List.take_of_length_le (by rw [List.length_drop]; omega), List.take_of_length_le (by rw [List.length_drop]; omega)]
  · rw [Int.min_eq_right (by omega), List.drop_of_length_le (by omega), List.drop_of_length_le (by omega)]
    simp
theorem tw_drop (l : List Nat) : l.drop (l.takeWhile (· == 32)).length = lst l := by
  induction l with
  | nil => rfl
  | cons c r ih =>
    unfold lst at ih ⊢
    rw [List.takeWhile_cons, List.dropWhile_cons]
    by_cases h : (c == 32) = true
    · rw [if_pos h, if_pos h]; exact ih
    · rw [if_neg h, if_neg h]; rfl
theorem lstrip_S (l : List Nat) : Txt.lstripChars (S l) (S [32]) = S (lst l) := by
  have e0 : (S [32]).cps.contains = fun c => c == 32 := by
    funext c
    show (#[32] : Array Nat).contains c = _
    have z : (#[32] : Array Nat).contains c = [32].contains c := by first | rfl | exact List.contains_toArray | simp only [List.contains_toArray]
    rw [z]
    by_cases h : c = 32
    · subst h; rfl
    · have q : (c == 32) = false := by simpa using h
      rw [q, List.contains_cons, q]; rfl
  unfold Txt.lstripChars Txt.stripBy
  rw [e0]
  have lo : stripLo (fun c => c == 32) true (S l) = (l.takeWhile (· == 32)).length := rfl
  have hi : ∀ k, stripHi (fun c => c == 32) false (S l) k = l.length := fun k => by unfold stripHi; rw [if_neg Bool.false_ne_true, S_len]
  unfold stripSame stripped
  rw [lo, hi, S_len]
  have e3 : strSub (S l) (l.takeWhile (· == 32)).length l.length = S (lst l) := by
    refine TL.ext_tl ?_
    show ((S l).cps.extract _ _).toList = lst l
    rw [← tw_drop l]
    simp [Array.toList_extract, List.extract_eq_drop_take]
    exact List.take_of_length_le (by rw [List.length_drop]; omega)
  by_cases h : ((l.takeWhile (· == 32)).length == 0 && l.length == l.length) = true
  · rw [if_pos h]
    have z : (l.takeWhile (· == 32)).length = 0 := by simpa using h
    rw [← tw_drop l, z]; rfl
  · rw [if_neg h, e3]
theorem rjust_S (l : List Nat) (w : Nat) : Txt.rjust (S l) (w : Int) = S (padL w l) := by
  unfold Txt.rjust padL
  rw [S_len]
  by_cases h : (w : Int) ≤ (l.length : Int)
  · rw [if_pos h, show w - l.length = 0 by omega]; rfl
  · rw [if_neg h, Int.toNat_natCast]
    refine TL.ext_tl ?_
    show (Array.replicate (w - l.length) 32 ++ (S l).cps ++ Array.replicate 0 32).toList = _
    simp
theorem spl_fil : ∀ (a acc : List Nat), (TL.spl [44] 0 acc a).flatten = acc ++ a.filter noC
  | [], acc => by rw [TL.spl_nil]; simp
  | c :: r, acc => by
    by_cases h : c = 44
    · subst h
      rw [TL.spl_hit (by unfold TL.pre; rfl)]
      show (acc :: TL.spl [44] 0 [] r).flatten = _
      rw [List.flatten_cons, spl_fil r [], List.nil_append]
      rfl
    · have q : noC c = true := by unfold noC; simpa using h
      rw [TL.spl_miss (by unfold TL.pre; simpa using h), spl_fil r (acc ++ [c]), List.filter_cons, if_pos q, List.append_assoc]; rfl
theorem joinL_nil : ∀ ps : List (List Nat), TL.joinL [] ps = ps.flatten
  | [] => rfl
  | [x] => by simp [TL.joinL]
  | x :: y :: r => by
    have ih := joinL_nil (y :: r)
    simp only [TL.joinL, List.flatten_cons] at ih ⊢
    rw [ih]; simp
theorem replace_S (a : List Nat) : Txt.replace (S a) (S [44]) (S []) = S (a.filter noC) := by
  have e := StrLaws.replace_one (S a) (S []) 44
  rw [e]
  have e2 : Txt.split (S a) (⟨#[44]⟩ : Str) = (TL.spl [44] 0 [] a).map S := split_S (b := [44]) (by simp) (by decide)
  rw [e2, ← TL.join_eq, join_S, joinL_nil, spl_fil, List.nil_append]
theorem digit_S (l : List Nat) : (Txt.isascii (S l) && Txt.isdigit (S l)) = (decide (l ≠ []) && l.all isD) := by
  unfold Txt.isascii Txt.isdigit
  have e1 : (S l).cps.all (· < 128) = l.all (· < 128) := by simp
  have e2 : (S l).cps.all Unicode.isDigit = l.all Unicode.isDigit := by simp
  rw [e1, e2, S_len]
  cases l with
  | nil => rfl
  | cons c r =>
    have e3 : decide ((c :: r).length > 0) = true := by simp
    have e4 : decide (c :: r ≠ []) = true := by simp
    rw [e3, e4, Bool.true_and, Bool.true_and]
    apply Bool.eq_iff_iff.mpr
    rw [Bool.and_eq_true, List.all_eq_true, List.all_eq_true, List.all_eq_true]
    have key : ∀ x : Nat, x < 128 → (Unicode.isDigit x = isD x) := by decide +kernel
    constructor
    · rintro ⟨h1, h2⟩ x hx
      rw [← key x (of_decide_eq_true (h1 x hx))]
      exact h2 x hx
    · intro h
      refine ⟨fun x hx => ?_, fun x hx => ?_⟩
      · have := isD_iff.mp (h x hx)
        exact decide_eq_true (by omega)
      · have := isD_iff.mp (h x hx)
        rw [key x (by omega)]; exact h x hx
end Sw
namespace Sw
open PySem PySem.Spec PyProof.Rows L2
/-! ### zip of a list and a tuple; enumerate(list, start=k) -/
def ItzM (K : PySem.W.Frag) (a b : Addr) : It :=
  ⟨fun i H => ∃ (xs ys : List V) (x y : V), SqL K H a xs ∧ SqT K H b ys ∧ xs[i]? = some x ∧ ys[i]? = some y,
    fun i H v H' => ∃ T x y, v = .ref T ∧ H T = none ∧ H' = upd H T (.tup [x, y]) ∧ (∀ xs, SqL K H a xs → xs[i]? = some x) ∧ (∀ ys, SqT K H b ys → ys[i]? = some y),
    fun i H => ∃ xs ys : List V, SqL K H a xs ∧ SqT K H b ys ∧ xs.length = i ∧ ys.length = i⟩
theorem turn_zipM {P : Program} {w : World} {K : PySem.W.Frag} {elts : List Expr} {kk : Nat} {tpos : Pos} {a b z TI TO i1 i2 : Addr}
    (D : ZipSep2 z TI TO i1 i2 [i1, a] [i2, b]) (h1a : a ≠ i1) (h2b : b ≠ i2) :
    Turn P w K (.Tuple elts kk tpos) (ItzM K a b) [z, TI, TO, i1, i2] z (fun i h => IsZip h z TI TO .none ∧ IsTupOf2 h TI (.ref i1) (.ref i2) ∧ (∃ x y, IsTupOf2 h TO x y) ∧ h.IsListIter i1 a i ∧ h.IsTupleIter i2 b i) where
  mem := by simp
  obj := fun i h st d hd => by
    obtain ⟨hz, hTI, ⟨x, y, hTO⟩, ⟨o1, e1, _, d1⟩, ⟨o2, e2, _, d2⟩⟩ := st
    have e' : d = z ∨ d = TI ∨ d = TO ∨ d = i1 ∨ d = i2 := by simpa using hd
    rcases e' with q | q | q | q | q
    · rw [q]; exact ⟨_, hz, fun v q => nomatch q⟩
    · rw [q]; exact ⟨_, hTI, fun v q => nomatch q⟩
    · rw [q]; exact ⟨_, hTO, fun v q => nomatch q⟩
    · rw [q]; exact ⟨o1, e1, fun v q => by rw [d1] at q; cases q⟩
    · rw [q]; exact ⟨o2, e2, fun v q => by rw [d2] at q; cases q⟩
  keep := fun i h h' st k => by
    obtain ⟨hz, hTI, ⟨x, y, hTO⟩, h1, h2⟩ := st
    exact ⟨k z (by simp) _ hz, k TI (by simp) _ hTI, ⟨x, y, k TO (by simp) _ hTO⟩, h1.at fun o q => k i1 (by simp) o q, h2.at fun o q => k i2 (by simp) o q⟩
  item := by
    intro X hP hw hK hc i pins s σ H E I hf st hg
    subst hP hw hK
    obtain ⟨hz, hTI, ⟨x0, y0, hTO⟩, h1, h2⟩ := st
    obtain ⟨xs, ys, x, y, hqx, hqy, hx, hy⟩ := hg
    obtain ⟨its, rv, p, _⟩ := I.list hqx
    obtain ⟨its2, rv2, p2, _⟩ := I.tuple hqy
    obtain ⟨u1, hu1, ru1⟩ := rv.get hx
    obtain ⟨u2, hu2, ru2⟩ := rv2.get hy
    have hh : X.A.in1.handled = none := I.ok.hd hc
    have D1 := Draws.list (prog := X.prog) (w := X.w) (A := X.A.in1) hh i1 a h1a its.toArray
    have D2 := Draws.tuple (prog := X.prog) (w := X.w) (A := X.A.in1) hh i2 b h2b its2.toArray
    have hzl : z < s.heap.objs.size := Heap.lt_size hz
    have lt1 : i < its.toArray.size := by simpa using (List.getElem?_eq_some_iff.mp hu1).1
    have lt2 : i < its2.toArray.size := by simpa using (List.getElem?_eq_some_iff.mp hu2).1
    refine wpAny_pyNext_zipD2_item D D1 D2 hz hTI hTO ⟨h1, p.isList⟩ ⟨h2, p2⟩ lt1 lt2 fun x1 x2 h' tk q1 q2 z' TO' s1' s2' hT hsz hk => ?_
    have e1 : x1 = u1 := by have q : its[i]? = some x1 := by simpa using q1
                            rw [hu1] at q; exact (Option.some.inj q).symm
    have e2 : x2 = u2 := by have q : its2[i]? = some x2 := by simpa using q2
                            rw [hu2] at q; exact (Option.some.inj q).symm
    subst e1 e2
    refine ⟨_, rfl, wpAny_letOwnedTupleGo_zip (s := { s with heap := h', toks := tk }) z' fun h'' z'' sb => ?_⟩
    have hT2 : h''.get? s.heap.objs.size = some { cls := .type "tuple", data := .seq #[x1, x2] } := (sb.2 _ (Nat.ne_of_gt hzl)).trans hT
    have new : ObjOk X.prog X.w (upd H s.heap.objs.size (.tup [x, y])) h'' s.heap.objs.size (.tup [x, y]) :=
      ⟨by show 2 ≤ sizeLine; decide, [x1, x2], .cons ru1 (.cons ru2 .nil), ⟨_, hT2, rfl, _, rfl⟩⟩
    have I1 : Inv X pins σ (upd H s.heap.objs.size (.tup [x, y])) { s with heap := h'', toks := tk } :=
      I.turnedNew (t' := tk) (ch := [z, TI, TO, i1, i2]) (fun d o hb q => (sb.2 d (fun q' => hb (by simp [q']))).trans (hk d o (fun q' => hb (by simp [q'])) (fun q' => hb (by simp [q'])) (fun q' => hb (by simp [q'])) (fun q' => hb (by simp [q'])) q)) hf (Nat.le_refl _) new
    refine ⟨.ref s.heap.objs.size, _, I1, rfl, ⟨_, x, y, rfl, I.hok.fresh (Nat.le_refl _), rfl, fun l hl => by rw [I.list_inj hl hqx]; exact hx, fun l hl => by rw [I.tuple_inj hl hqy]; exact hy⟩, ⟨z'', ?_, ⟨x1, x2, ?_⟩, ?_, ?_⟩, fun d hdm => ?_⟩
    · exact (sb.2 _ D.TIz).trans (hk _ _ D.TIz D.TITO D.TIi1 D.TIi2 hTI)
    · exact (sb.2 _ D.TOz).trans TO'
    · exact s1'.1.at fun o q => (sb.2 _ D.zi1.symm).trans q
    · exact s2'.1.at fun o q => (sb.2 _ D.zi2.symm).trans q
    · have hlt : d < s.heap.objs.size := by
        have e' : d = z ∨ d = TI ∨ d = TO ∨ d = i1 ∨ d = i2 := by simpa using hdm
        rcases e' with q | q | q | q | q
        · rw [q]; exact hzl
        · rw [q]; exact Heap.lt_size hTI
        · rw [q]; exact Heap.lt_size hTO
        · rw [q]; obtain ⟨_, e1, _⟩ := h1; exact Heap.lt_size e1
        · rw [q]; obtain ⟨_, e2, _⟩ := h2; exact Heap.lt_size e2
      rw [upd_ne (Nat.ne_of_lt hlt)]
      exact (hf d hdm).1
  done := by
    intro X hP hw hK hc i pins s σ H E I hf st hg
    subst hP hw hK
    obtain ⟨hz, hTI, ⟨x0, y0, hTO⟩, h1, h2⟩ := st
    obtain ⟨xs, ys, hqx, hqy, l1, l2⟩ := hg
    obtain ⟨its, rv, p, _⟩ := I.list hqx
    obtain ⟨its2, rv2, p2, _⟩ := I.tuple hqy
    have m1 : i = its.toArray.size := by have := rv.length; simp; omega
    have m2 : i = its2.toArray.size := by have := rv2.length; simp; omega
    have hh : X.A.in1.handled = none := I.ok.hd hc
    have D1 := Draws.list (prog := X.prog) (w := X.w) (A := X.A.in1) hh i1 a h1a its.toArray
    have D2 := Draws.tuple (prog := X.prog) (w := X.w) (A := X.A.in1) hh i2 b h2b its2.toArray
    exact wpAny_pyNext_zipD2_end D D1 D2 hz hTI hTO ⟨h1, p.isList⟩ ⟨h2, p2⟩ (Nat.le_of_eq m1) (Nat.le_of_eq m2) (.inl m1) fun h' tk hk => ⟨rfl, I.turnedL (t' := tk) (ch := [z, TI, TO, i1, i2]) (fun d o hb q =>
      hk d o (fun q' => hb (by simp [q'])) (fun q' => hb (by simp [q'])) (fun q' => hb (by simp [q'])) (fun q' => hb (by simp [q'])) q) hf⟩
  self := fun A i s Q E st h => wpAny_pyIter_zip st.1 h
def iZipM (K : PySem.W.Frag) (ta : TA) : TI := fun σ H R => ta σ H fun vs H1 => ∃ a b xs ys, vs = [.ref a, .ref b] ∧ SqL K H1 a xs ∧ SqT K H1 b ys ∧ R (ItzM K a b) H1
theorem pi_zipM (K : PySem.W.Frag) {X : Cx} {e e2 : Expr} {ta : TA} {p pos tpos : Pos} {elts : List Expr} {kk : Nat} (hK : X.K = K) (hg : Gl X "zip") (hm : X.mg "zip" = none) (ha : PA X [e, e2] ta)
    (hs : starEach [e, e2] X.env = (false, eval e X.env) :: starEach [e2] X.env := by rfl) (hpl : (backTo pos (starEach [e2] X.env)).any (·.1) = false := by rfl) :
    PI X (.Tuple elts kk tpos) (.Call (.Name "zip" p) [e, e2] [] pos) (iZipM K ta) := by
  subst hK
  refine ⟨fun pins s σ H R I h => ?_⟩
  refine Call_ (ld_blt I hg hm PyProof.Rows.boot_zip (PyProof.Rows.callWith_type1 (thn (ha.run pos pins s σ H _ I h) fun us s1 ⟨vs, H1, I1, r1, q1⟩ => ?_) hs hpl))
  obtain ⟨a, b, xs, ys, ex, hqx, hqy, q⟩ := q1
  subst ex
  cases r1 with
  | cons r rr =>
    cases rr with
    | cons r' rr =>
      cases rr
      cases r
      cases r'
      obtain ⟨its, rv, p1, _⟩ := I1.list hqx
      obtain ⟨its2, rv2, p2, _⟩ := I1.tuple hqy
      have la : a < s1.heap.objs.size := p1.lt
      have lb : b < s1.heap.objs.size := p2.lt
      refine zip_begins2 (begins_list a its.toArray) (begins_tuple b its2.toArray) p1.isList p2 fun h' hz hTI hTO h1 h2 hsz hk => wpAny_pyIter_zip hz ?_
      have I2 : Inv X pins σ H1 { s1 with heap := h' } := I1.kept (t' := s1.toks) hk
      have sep : ZipSep2 (s1.heap.objs.size + 4) (s1.heap.objs.size + 2) (s1.heap.objs.size + 3) s1.heap.objs.size (s1.heap.objs.size + 1) [s1.heap.objs.size, a] [s1.heap.objs.size + 1, b] :=
        zip_sep2 (N := s1.heap.objs.size) (fp1 := [a]) (fp2 := [b]) (fun d hd => by rw [List.mem_singleton.mp hd]; exact la) (fun d hd => by rw [List.mem_singleton.mp hd]; exact lb)
      refine ⟨s1.heap.objs.size + 4, [s1.heap.objs.size + 4, s1.heap.objs.size + 2, s1.heap.objs.size + 3, s1.heap.objs.size, s1.heap.objs.size + 1], _, _, H1, rfl, I2,
        turn_zipM sep (Nat.ne_of_lt la) (Nat.ne_of_lt (Nat.lt_succ_of_lt lb)), ⟨hz, hTI, ⟨_, _, hTO⟩, ⟨_, h1, rfl, rfl⟩, ⟨_, h2, rfl, rfl⟩⟩, fun d hdm => ?_, q⟩
      have e' : d = s1.heap.objs.size + 4 ∨ d = s1.heap.objs.size + 2 ∨ d = s1.heap.objs.size + 3 ∨ d = s1.heap.objs.size ∨ d = s1.heap.objs.size + 1 := by simpa using hdm
      have hle : s1.heap.objs.size ≤ d := by
        rcases e' with z | z | z | z | z
        · rw [z]; exact Nat.le_add_right _ _
        · rw [z]; exact Nat.le_add_right _ _
        · rw [z]; exact Nat.le_add_right _ _
        · rw [z]; exact Nat.le_refl _
        · rw [z]; exact Nat.le_add_right _ _
      exact I1.fpOk hle (I1.hok.fresh hle)
def ItsF (K : PySem.W.Frag) (c : Int) (a : Addr) : It :=
  ⟨fun i H => ∃ (xs : List V) (x : V), SqL K H a xs ∧ xs[i]? = some x, fun i H v H' => ∃ T x, v = .ref T ∧ H T = none ∧ H' = upd H T (.tup [.int (c + (i : Nat)), x]) ∧ ∀ xs, SqL K H a xs → xs[i]? = some x, fun i H => ∃ xs : List V, SqL K H a xs ∧ xs.length = i⟩
theorem turn_enumF {P : Program} {w : World} {K : PySem.W.Frag} {elts : List Expr} {kk : Nat} {tpos : Pos} (c : Int) (a e it : Addr) (hai : a ≠ it) (hae : e ≠ a) :
    Turn P w K (.Tuple elts kk tpos) (ItsF K c a) [e, it] e (fun i h => (∃ old, IsEnum h e it (c + ((i : Nat) : Int)) old) ∧ h.IsListIter it a i ∧ e ≠ it) where
  mem := by simp
  obj := fun i h st b hb => by
    obtain ⟨⟨old, he⟩, ⟨o, ho, hc, hd⟩, _⟩ := st
    have e' : b = e ∨ b = it := by simpa using hb
    rcases e' with z | z
    · rw [z]; exact ⟨_, he, fun v q => nomatch q⟩
    · rw [z]; exact ⟨o, ho, fun v q => by rw [hd] at q; cases q⟩
  keep := fun i h h' st k => let ⟨⟨old, he⟩, hi, hne⟩ := st; ⟨⟨old, k e (by simp) _ he⟩, hi.at fun o q => k it (by simp) o q, hne⟩
  item := by
    intro X hP hw hK hc i pins s σ H E I hf st hg
    subst hP hw hK
    obtain ⟨⟨old, he⟩, hit, hne⟩ := st
    obtain ⟨xs, x, hq, hx⟩ := hg
    obtain ⟨its, rv, p, hz⟩ := I.list hq
    obtain ⟨u, hu, ru⟩ := rv.get hx
    have hel : e < s.heap.objs.size := Heap.lt_size he
    have hil : it < s.heap.objs.size := by obtain ⟨_, q, _⟩ := hit; exact Heap.lt_size q
    have hh : X.A.in1.handled = none := I.ok.hd hc
    have D1 := Draws.list (prog := X.prog) (w := X.w) (A := X.A.in1) hh it a hai its.toArray
    have lt1 : i < its.toArray.size := by simpa using (List.getElem?_eq_some_iff.mp hu).1
    have hef : e ∉ [it, a] := by simp [hne, hae]
    refine wpAny_pyNext_enum_itemC D1 he ⟨hit, p.isList⟩ lt1 hne hef fun x1 h' tk q1 ho st' hT hsz hk => ?_
    have e1 : x1 = u := by have q : its[i]? = some x1 := by simpa using q1
                           rw [hu] at q; exact (Option.some.inj q).symm
    subst e1
    refine ⟨_, rfl, wpAny_letOwnedTupleGo_enum (s := { s with heap := h', toks := tk + 1 }) ho fun h'' he' sb => ?_⟩
    have hT2 : h''.get? s.heap.objs.size = some { cls := .type "tuple", data := .seq #[.int (c + (i : Int)) tk, x1] } := (sb.2 _ (Nat.ne_of_gt hel)).trans hT
    have new : ObjOk X.prog X.w (upd H s.heap.objs.size (.tup [.int (c + (i : Nat)), x])) h'' s.heap.objs.size (.tup [.int (c + (i : Nat)), x]) :=
      ⟨by show 2 ≤ sizeLine; decide, [.int (c + (i : Int)) tk, x1], .cons ⟨_, rfl⟩ (.cons ru .nil), ⟨_, hT2, rfl, _, rfl⟩⟩
    have I1 : Inv X pins σ (upd H s.heap.objs.size (.tup [.int (c + (i : Nat)), x])) { s with heap := h'', toks := tk + 1 } :=
      I.turnedNew (ch := [e, it]) (fun b ob hb q => (sb.2 b (fun z => hb (by simp [z]))).trans (hk b ob (fun z => hb (by simp [z])) (fun z => hb (by simp [z])) q)) hf (Nat.le_refl _) new
    refine ⟨.ref s.heap.objs.size, _, I1, rfl, ⟨_, x, rfl, I.hok.fresh (Nat.le_refl _), rfl, fun ys hy => by rw [I.list_inj hy hq]; exact hx⟩, ⟨⟨x1, ?_⟩, st'.1.at fun o q => (sb.2 it (Ne.symm hne)).trans q, hne⟩, fun b hb => ?_⟩
    · have e1 : c + ((i + 1 : Nat) : Int) = c + (i : Int) + 1 := by omega
      rw [e1]; exact he'
    · have hb' : b < s.heap.objs.size := by
        have e' : b = e ∨ b = it := by simpa using hb
        rcases e' with z | z
        · rw [z]; exact hel
        · rw [z]; exact hil
      rw [upd_ne (Nat.ne_of_lt hb')]
      exact (hf b hb).1
  done := by
    intro X hP hw hK hc i pins s σ H E I hf st hg
    subst hP hw hK
    obtain ⟨⟨old, he⟩, hit, hne⟩ := st
    obtain ⟨xs, hq, hx⟩ := hg
    obtain ⟨its, rv, p, hz⟩ := I.list hq
    obtain ⟨f0, f1, f2, f3, f4, f5⟩ := hf it (by simp)
    have hh : X.A.in1.handled = none := I.ok.hd hc
    have D1 := Draws.list (prog := X.prog) (w := X.w) (A := X.A.in1) hh it a hai its.toArray
    have m1 : its.toArray.size = i := by have := rv.length; simp; omega
    refine wpAny_pyNext_enum_endD D1 he ⟨by rw [m1]; exact hit, p.isList⟩ fun h' eb => ⟨rfl, I.turned (t' := s.toks) (fun b o hb q => eb b o hb q) f0 f1 f3 f4 f5⟩
  self := fun A i s Q E st h => let ⟨⟨_, he⟩, _⟩ := st; wpAny_pyIter_enum he h

def iEnumF (K : PySem.W.Frag) (c : Int) (ta : TA) : TI := fun σ H R => ta σ H fun vs H1 => ∃ a xs, vs = [.ref a] ∧ SqL K H1 a xs ∧ R (ItsF K c a) H1
theorem callWith_tkw {M : Model} {A : Around} {E : Value → Shared → Prop} {s : Shared} {env : Env} {po : Pos} {T : String} {e : Expr} {kws : List Keyword} {Q : Value → Shared → Prop}
    (h : wpAny M A (spliced (backTo po (starEach [e] env))) (fun vs t => wpAny M A (evalAll ((backToKw po (keywordEach kws env)).map (·.2))) (fun ks t2 => wpAny M A (call (.type T) vs (((backToKw po (keywordEach kws env)).filterMap (·.1)).zip ks)) Q E t2) E t) E s)
    (one : backTo po (starEach [e] env) = (false, eval e env) :: backTo po (starEach [] env)) (flat : (backTo po (starEach [e] env)).any (·.1) = false)
    (named : (backToKw po (keywordEach kws env)).all (·.1.isSome) = true) (none_ : (backToKw po (keywordEach kws env)).any (·.1.isNone) = false) :
    wpAny M A (callWith po (.type T) [] (backTo po (starEach [e] env)) (backToKw po (keywordEach kws env))) Q E s := by
  have main : wpAny M A (evalArgs (.type T) true (backTo po (starEach [e] env)) (backToKw po (keywordEach kws env))) (fun a t => wpAny M A (call (.type T) ([] ++ a.pos) a.kw) Q E t) E s := by
    rw [one] at h ⊢
    exact evalArgs_kwB named h
  unfold callWith
  refine wpAny_bind (wpAny_holding (wpAny_mono main (fun a t ht => wpAny_bind (wpAny_standAt ?_)) fun _ _ x => x))
  simp only [flat, none_, Bool.or_false]
  exact wpAny_bind (wpAny_pure (wpAny_bind (wpAny_mono ht (fun r t2 hr => wpAny_bind (wpAny_holding (wpAny_point (wpAny_pure hr)))) fun _ _ x => x)))
theorem pi_enumF (K : PySem.W.Frag) {X : Cx} {e : Expr} {ta : TA} {c : Int} {j : Nat} {p pos tpos kp cp : Pos} {elts : List Expr} {kk : Nat} (hK : X.K = K) (hg : Gl X "enumerate") (hm : X.mg "enumerate" = none) (ha : PA X [e] ta) (c0 : -1000 ≤ c) (c1 : c ≤ 1000)
    (hs : backTo pos (starEach [e] X.env) = (false, eval e X.env) :: backTo pos (starEach [] X.env) := by rfl) (hf : (backTo pos (starEach [e] X.env)).any (·.1) = false := by rfl)
    (he : eval (.Call (.Name "enumerate" p) [e] [⟨some "start", .Constant (.int c) j cp, kp⟩] pos) X.env = (do callWith pos (← eval (.Name "enumerate" p) X.env) [] (backTo pos (starEach [e] X.env)) (backToKw pos (keywordEach [⟨some "start", .Constant (.int c) j cp, kp⟩] X.env))) := by rfl) :
    PI X (.Tuple elts kk tpos) (.Call (.Name "enumerate" p) [e] [⟨some "start", .Constant (.int c) j cp, kp⟩] pos) (iEnumF K c ta) := by
  subst hK
  refine ⟨fun pins s σ H R I h => ?_⟩
  rw [he]
  refine wpAny_bind (ld_blt I hg hm boot_enumerate (callWith_tkw ?_ hs hf rfl rfl))
  refine thn (ha.run pos pins s σ H _ I h) fun us s1 ⟨vs, H1, I1, r1, q1⟩ => ?_
  obtain ⟨a, xs, ex, hq, q⟩ := q1
  subst ex
  cases r1 with
  | cons r rr =>
    cases rr
    cases r
    refine kws_cons ?_
    refine wpAny_Constant_int ?_
    refine kws_nil ?_
    have I1 := I1.tok (s1.toks + 1)
    generalize ht1 : ({ s1 with toks := s1.toks + 1 } : Shared) = t1 at I1 ⊢
    obtain ⟨its, rv, p', hz⟩ := I1.list hq
    have la : a < t1.heap.objs.size := p'.lt
    show wpAny _ _ (call (.type "enumerate") [.ref a] [(Str.ofString "start", .int c s1.toks)]) _ _ t1
    refine enum_begins_start (begins_list a its.toArray) p'.isList (by omega) (by omega) fun h' he hit hsz hk => wpAny_pyIter_enum he ?_
    have I2 : Inv X pins σ H1 { t1 with heap := h' } := I1.kept (t' := t1.toks) hk
    have he0 : IsEnum h' (t1.heap.objs.size + 1) t1.heap.objs.size (c + ((0 : Nat) : Int)) .none := by
      have z : c + ((0 : Nat) : Int) = c := by omega
      rw [z]; exact he
    refine ⟨t1.heap.objs.size + 1, [t1.heap.objs.size + 1, t1.heap.objs.size], _, _, H1, rfl, I2, turn_enumF c a (t1.heap.objs.size + 1) t1.heap.objs.size (Nat.ne_of_lt la) (Nat.ne_of_gt (Nat.lt_succ_of_lt la)), ⟨⟨.none, he0⟩, ⟨_, hit, rfl, rfl⟩, Nat.succ_ne_self _⟩, fun b hb => ?_, q⟩
    have e' : b = t1.heap.objs.size + 1 ∨ b = t1.heap.objs.size := by simpa using hb
    have hle : t1.heap.objs.size ≤ b := by
      rcases e' with z | z
      · rw [z]; exact Nat.le_add_right _ _
      · rw [z]; exact Nat.le_refl _
    exact I1.fpOk hle (I1.hok.fresh hle)
end Sw
namespace Sw
open PySem PySem.Spec PyProof.Rows L2 Evl
/-! ### where a token is out: what str.replace of two written texts asks -/
section
variable {α : Type} {M : Model} {A : Around} {t : Sem α} {Q R : α → Shared → Prop} {E : Value → Shared → Prop} {s : Shared}
theorem wk (n0 : 1 ≤ s.toks) (h : wpAny M A t Q E s) (f : ∀ a s', 1 ≤ s'.toks → Q a s' → R a s') : wpAny M A t R E s := wpAny_mono (wpAny_toks_of n0 h) (fun a s' z => f a s' z.1 z.2) fun _ _ z => z.2
theorem wkF (n0 : 1 ≤ s.toks) (h : wpAny M A t Q (fun _ _ => False) s) (f : ∀ a s', 1 ≤ s'.toks → Q a s' → R a s') : wpAny M A t R E s := wpAny_mono (wpAny_toks_of n0 h) (fun a s' z => f a s' z.1 z.2) fun _ _ z => z.2.elim
end
section
variable {X : Cx} {st : Stmt} {rest : List Stmt} {u : TS}
/-- o.split(c), c written, stored under a name, ahead of the rest -/
theorem pss_spl {i j : Nat} {x y : Str} {o : Expr} {to : TE} {cp ap cl np po : Pos} (nd : X.N.Nodup) (hi : X.N[i]? = some x) (hx : Loc X.env.scope x) (ho : PE X o to) (h2 : PSsT X rest u)
    (hst : starEach [.Constant (.str y) j cp] X.env = [(false, eval (.Constant (.str y) j cp) X.env)] := by rfl) (hba : attributeBase o "split" X.env (eval o X.env) = eval o X.env := by rfl) (hln : (ap.endLine == cl.line) = true := by rfl)
    (hs : swapsWith (.Call (.Attribute o "split" ap) [.Constant (.str y) j cp] [] cl) (some (.Name x np)) po.line X.env = pure false := by rfl) (hf : X.fn x = true ∨ X.env.scope.names.lookup x = some .local := by first | exact .inl rfl | exact .inr rfl | assumption) :
    PSs X (.Assign [.Name x np] (.Call (.Attribute o "split" ap) [.Constant (.str y) j cp] [] cl) po :: rest) (tSeq (tAsg (tM1 (fun x xs H Q => ∃ a b, x = .str a ∧ xs = [.str b] ∧ (b.length == 0) = false ∧ a.length + 2 ≤ sizeLine ∧ rNewStrs (Txt.split a b) H Q) to (tC (.str y))) (gName i)) u) := by
  refine ⟨fun pn s σ H D J rd => ?_⟩
  refine wpAny_execs_cons (wpAny_Assign_Name (PySem.Call_method1 hba hst hln (thn (ho.run pn s σ H _ J rd) fun v t1 hv => ?_)) hs)
  obtain ⟨z, H1, J1, rz, ⟨a, ea⟩, q1⟩ := hv
  subst ea
  obtain ⟨k, rfl⟩ := rz
  refine ⟨"str", _, PySem.F.plainAttrs_str, PySem.F.slot_str_split, PySem.F.type_str_split, typeIs_str _ _ _, (fun _ e => nomatch e), Calls.callWith_builtin rfl (Calls.evalArgs_plain (Calls.spliced_cons ?_))⟩
  refine Calls.Constant_str (Calls.spliced_nil ?_)
  refine wk (show 1 ≤ t1.toks + 1 by omega) (mt_split (X := X) pn { t1 with toks := t1.toks + 1 } σ H1 (.str a) [.str y] _ _ _ (J1.tok _) ⟨_, rfl⟩ (.cons ⟨_, rfl⟩ .nil) q1) fun w t2 n2 hw => ?_
  obtain ⟨z2, H2, J2, r2, q2⟩ := hw
  refine wk n2 (store_ok (Q := fun _ t3 => Inv X pn (σ.set i (some z2)) H2 t3) J2 nd hi hx r2 (fun _ J3 => J3) hf) fun _ t3 n3 J3 => ?_
  exact h2 pn t3 _ H2 D n3 J3 q2
/-- for, the body of which asks for a token -/
theorem pst_forB {tg iter : Expr} {body : List Stmt} {wi : TI} {g : TG} {tb : TS} {po : Pos} (hp : PassesOwn (model X.prog X.w) X.A X.env X.xe) (calm : X.calm = true) (pi : PI X tg iter wi) (pg : PG X tg g) (pb : PSsT X body tb)
    (fo : ∀ x, foldedSetIterable iter X.env x = pure x := by intro _; rfl) : PST X (.For tg iter body [] po) (tFor wi g tb) := by
  intro pn t σ H D n0 J rd
  refine wpAny_For (wk n0 (pi.run pn t σ H _ J rd) fun v t1 n1 h1 => wk n1 h1 fun iv t2 n2 h2 => ?_) fo
  obtain ⟨it, fp, tn, Jt, H2, e, J2, T, st2, f2, W, ⟨m0, w0⟩, turn⟩ := h2
  subst e
  have same : ∀ {H' : Hp}, (∀ b ∈ fp, H' b = none) → ∀ b ∈ fp, FpOk X pn H' b := fun hn b hb => ⟨hn b hb, (f2 b hb).2⟩
  refine codeAny_forLoop_any (fun n t' => 1 ≤ t'.toks ∧ ∃ i σ' H', Inv X pn σ' H' t' ∧ tn i t'.heap ∧ (∀ b ∈ fp, H' b = none) ∧ W i n σ' H') ?_ m0 ⟨n2, 0, σ, H2, J2, st2, fun b hb => (f2 b hb).1, w0⟩
  rintro n t3 ⟨n3, i, σ3, H3, J3, st3, fr3, w3⟩
  rcases turn i n σ3 H3 w3 with ⟨stop, qn⟩ | ⟨gg, Nx, hNx, step⟩
  · refine wpAny_passesOwn hp (thn (T.done X rfl rfl rfl calm i pn t3 σ3 H3 X.xe J3 (same fr3) st3 stop) fun r t4 hr => ?_)
    obtain ⟨hr, J4⟩ := hr
    subst hr
    exact wpAny_execs_nil ⟨σ3, H3, J4, qn⟩
  · refine wpAny_passesOwn hp (wk n3 (T.item X rfl rfl rfl calm i pn t3 σ3 H3 X.xe J3 (same fr3) st3 gg) fun r t4 n4 hr => ?_)
    obtain ⟨y, hr, h4⟩ := hr
    subst hr
    refine wpAny_passesOwn hp (wk n4 h4 fun _ t5 n5 h5 => ?_)
    obtain ⟨x, H5, J5, r5, y5, st5, fr5⟩ := h5
    have J5' := J5.pinned (same fr5) (T.obj _ _ st5)
    refine wpAny_passesOwn hp (wk n5 (pg.run _ t5 σ3 H5 x y _ J5' r5 (step x H5 y5)) fun _ t6 n6 h6 => ?_)
    obtain ⟨σ6, H6, J6, q6⟩ := h6
    refine wpAny_passesOwn hp (wk n6 (pb _ t6 σ6 H6 _ n6 J6 q6) fun f t7 n7 q7 => ?_)
    have more : ∀ {σ7 : L2.St} {H7 : Hp}, Inv X (pn ++ pinsAt fp t5.heap) σ7 H7 t7 → Nx σ7 H7 → ∃ m, m < n ∧ 1 ≤ t7.toks ∧ ∃ i σ' H', Inv X pn σ' H' t7 ∧ tn i t7.heap ∧ (∀ b ∈ fp, H' b = none) ∧ W i m σ' H' := fun {σ7 H7} J7 nx => by
      obtain ⟨m', hm, w7⟩ := hNx σ7 H7 nx
      have pin : ∀ b ∈ fp, ∀ o, t5.heap.get? b = some o → t7.heap.get? b = some o ∧ H7 b = none := fun b hb o e =>
        let z := J7.pin (b, o) (List.mem_append_right _ (List.mem_append_right _ (mem_pinsAt hb e))); ⟨z.1, z.2.1⟩
      refine ⟨m', hm, n7, i + 1, σ7, H7, J7.unpinned, T.keep _ _ _ st5 fun b hb o e => (pin b hb o e).1, fun b hb => ?_, w7⟩
      obtain ⟨o, e, d⟩ := T.obj _ _ st5 b hb
      exact (pin b hb o e).2
    cases f with
    | next => obtain ⟨_, _, J7, nx⟩ := q7; exact more J7 nx
    | cont => obtain ⟨_, _, J7, nx⟩ := q7; exact more J7 nx
    | brk => obtain ⟨σ7, H7, J7, q7⟩ := q7; exact ⟨σ7, H7, J7.unpinned, q7⟩
    | ret v => obtain ⟨x7, σ7, H7, J7, r7, q7⟩ := q7; exact ⟨x7, σ7, H7, J7.unpinned, r7, q7⟩
/-- a value that asks for a token, stored under a name -/
theorem pst_set {i : Nat} {x : Str} {e : Expr} {te : TE} {np po : Pos} (nd : X.N.Nodup) (hi : X.N[i]? = some x) (hx : Loc X.env.scope x) (he : PET X e te)
    (hs : swapsWith e (some (.Name x np)) po.line X.env = pure false := by rfl) (hf : X.fn x = true ∨ X.env.scope.names.lookup x = some .local := by first | exact .inl rfl | exact .inr rfl | assumption) :
    PST X (.Assign [.Name x np] e po) (tAsg te (gName i)) := by
  intro pn t σ H D n0 J rd
  refine wpAny_Assign_Name (thn (he pn t σ H _ n0 J rd) fun v t1 hv => ?_) hs
  obtain ⟨z, H1, J1, rz, q1⟩ := hv
  exact store_ok J1 nd hi hx rz (fun t2 J2 => ⟨_, H1, J2, q1⟩) hf
end
/-! ### defs that ask for a token -/
structure FnT (P : Program) (w : World) (K : PySem.W.Frag) (mg : Str → Option Value) (base : Heap) (CX : CXT) (k : Nat) (f : Addr) (fd : FuncData) (ps : List Str) (sp : Sp) : Prop where
  len : ∀ vs H Q E, sp vs H Q E → vs.length = ps.length
  go : ∀ (A : Around) (out : List Env) (s : Shared) (H : Hp) (args : Args) (us : List Value) (vs : List V) (Q : VK) (E : XK), 1 ≤ s.toks → Room k A → Env0 P w K mg base A out s H → BindsTo s fd args (ps.zip us) → Vals vs us → sp vs H Q E →
    codeAny (model P w) A (.call (.ref f) args) (CR CX out P w H s Q E) s
section
variable {P : Program} {w : World} {K : PySem.W.Frag} {mg : Str → Option Value} {base : Heap}
theorem FnT.mk' {x qual : Str} {st : Stmt} {f : Addr} {fd : FuncData} {N ps : List Str} {k : Nat} {sp : Sp} (F : Fun K x qual st f fd) (S : FnScope N ps (defScope st)) (len : ∀ vs H Q E, sp vs H Q E → vs.length = ps.length)
    (body : ∀ (cdv : Value) (A : Around) (out : List Env) (s : Shared) (H : Hp) (vs : List V) (Q : VK) (E : XK), Room k (A.deeper (envOfC qual (defScope st) s.heap.objs.size f cdv)) → sp vs H Q E →
      ∃ t, PSsT (cxOf (L2.CX P w) P w K mg base N qual (defScope st) f cdv A out s H E) (defBody st) t ∧ t { nx := fun _ H' => Q .non H', rt := Q } (start N vs) H) : FnT P w K mg base (L2.CX P w) (k + 1) f fd ps sp := by
  obtain ⟨oc, od, kV, doc, pm, an, cdv, ct, osl, rfl, lk, hcd⟩ := F.ex
  refine ⟨len, fun A out s H args us vs Q E n0 room e0 hb rv hsp => ?_⟩
  have hl := len _ _ _ _ hsp
  have inK : K.In s.heap := e0.mod.kin.keeps fun b o e => (e0.bs b o e).1
  have kinds : ∀ y ∈ ps.zip us, (defScope st).names.lookup y.1 = some .local ∨ ((defScope st).names.lookup y.1 = some .cell ∧ ((cellsFrom (s.heap.objs.size + 1) (defScope st).names []).lookup y.1).isSome = true) := fun y hy => by
    rcases S.par y.1 (List.of_mem_zip hy).1 with q | q
    · exact .inl q
    · exact .inr ⟨q, PySem.W.cellsFrom_some _ _ _ (.inl q)⟩
  refine codeAny_call_function room.depth (inK _ _ lk) rfl S.co S.gen rfl (PySem.W.codeRec_of inK hcd) (hb _ _ _ _ ?_)
  refine wpAny_with_toks n0 (wpAny_newFunctionEnv_cells S.kind kinds fun env he s1 x n1 => ?_)
  subst he
  refine ⟨(e0.mod.nolimit.keeps fun b o e => (e0.bs b o e).1).keeps x.toInCall.keep, codeAny_func ?_⟩
  obtain ⟨t, ht, hq⟩ := body cdv A out s H vs Q E (room.deeper _) hsp
  have J : Inv (cxOf (L2.CX P w) P w K mg base N qual (defScope st) f cdv A out s H E) [] (start N vs) H s1 := inv_start S room.hd e0 hl rv x
  refine wpAny_mono (ht [] s1 (start N vs) H _ n1 J hq) (fun fl s' hs => ?_) fun e s' hs => hs
  have fin : ∀ {σ' : L2.St} {H' : Hp} {v : V} {u : Value}, Inv (cxOf (L2.CX P w) P w K mg base N qual (defScope st) f cdv A out s H E) [] σ' H' s' → RelV v u → Q v H' → CE out P w H s Q u s' :=
    fun {σ' H' v u} J r q => ⟨v, H', J.os, J.bare, J.base, J.hok, r, q⟩
  cases fl with
  | ret u => obtain ⟨v, σ', H', J, r, q⟩ := hs; exact fin J r q
  | next => obtain ⟨σ', H', J, q⟩ := hs; exact fin (v := V.non) (u := Value.none) J rfl q
  | brk => obtain ⟨_, _, _, q⟩ := hs; exact q.elim
  | cont => obtain ⟨_, _, _, q⟩ := hs; exact q.elim
end
section
variable {X : Cx} {k : Nat} {f : Addr} {fd : FuncData} {ps : List Str} {sp : Sp} {E : XK} {x : Str} {e : Expr} {es : List Expr} {ta : TA} {p po : Pos}
theorem pet_call (F : FnT X.prog X.w X.K X.mg X.base (L2.CX X.prog X.w) k f fd ps sp) (hr : Room k X.A) (hg : Gl X x) (hm : X.mg x = some (.ref f)) (hk : PySem.W.keepIn X.K (.ref f) = true) (hb : Binds X.K fd ps []) (hx : Passes (L2.CX X.prog X.w) X E)
    (ha : PA X (e :: es) ta) (hdb : (x == ("__debug__" : Str)) = false := by decide) (he : starEach (e :: es) X.env = (false, eval e X.env) :: starEach es X.env := by rfl) (hpl : (backTo po (starEach es X.env)).any (·.1) = false := by rfl) :
    PET X (.Call (.Name x p) (e :: es) [] po) (tCall sp [] E ta) := by
  intro pn s σ H Q n0 J rd
  refine wpAny_Call_Name_kw (ld_glob J hg hm ?_ hdb)
  refine PySem.W.callWith_K (h₀ := X.base) J.ok.mod.kin hk (wk n0 (ha.run po pn s σ H _ J rd) fun us s1 n1 h1 => ?_) he hpl
  obtain ⟨vs, H1, J1, rv, q⟩ := h1
  refine ⟨J1.kIn, ?_⟩
  rw [List.append_nil] at q
  have hl : us.length = ps.length := by rw [← rv.length]; exact F.len _ _ _ _ q
  have hbd : BindsTo s1 fd ⟨us, []⟩ (ps.zip us) := by
    have z := hb s1 us J1.kIn (by rw [List.append_nil]; exact hl)
    rw [List.append_nil] at z
    exact z
  refine wpAny_call (codeAny_mono (F.go X.A X.stack s1 H1 ⟨us, []⟩ us vs Q E n1 hr J1.env0 hbd rv q) fun r s' hq => ?_)
  cases r with
  | error er => exact hx pn σ H1 s1 er s' J1 hq
  | ok fl =>
    cases fl with
    | ret u => exact J1.after hq
    | next => exact hq.elim
    | brk => exact hq.elim
    | cont => exact hq.elim
end
section
variable {X : Cx} {E : XK}
theorem lcT_core {pn : List (Addr × Obj)} {t : Shared} {σ : L2.St} {H : Hp} {Q : VK} {el tg itr : Expr} {sc : Scope} {own : List (Str × Nat)} {po po' : Pos} {wi : TI} {g : TG} {te : TE} {Qf : Value → Shared → Prop} (tk : Takes X (fun cls d _ H => E cls d H)) (hs : X.stack = X.env :: X.outer) (hf : X.env.frame = some X.env.locals)
    (calm : X.calm = true) (nodup : X.N.Nodup) (n0 : 1 ≤ t.toks) (J : Inv X pn σ H t) (pi : PI X tg itr wi) (ok : BlkOk X.N X.env.scope sc own)
    (pg : ∀ (t : Shared) (H : Hp) (C : Addr) (cl : List (Str × Addr)) (fp : List Addr), PG (X.blk t H sc (compEnvC sc cl C X.env) fp) tg g)
    (pe : ∀ (t : Shared) (H : Hp) (C : Addr) (cl : List (Str × Addr)) (fp : List Addr) (pn : List (Addr × Obj)) (xe : Value → Shared → Prop), Passes (L2.CX X.prog X.w) ((X.blk t H sc (compEnvC sc cl C X.env) fp).tr pn xe) E → PET ((X.blk t H sc (compEnvC sc cl C X.env) fp).tr pn xe) el te)
    (fo : ∀ x, foldedSetIterable itr X.env x = pure x) (rd : tLc wi g tYes te (own.map (·.2)) σ H Q)
    (fin : ∀ D C t' m H', Inv X pn σ H' t' → Q (.ref D) H' → t'.heap.Ns C m → FpOk X pn H' C → ∃ m, t'.heap.Ns C m ∧ ∀ h', Heap.SameBut C t'.heap h' → Qf (.ref D) { t' with heap := h' }) :
    wpAny (model X.prog X.w) X.A (comprehension (.ListComp el [⟨tg, itr, [], 0⟩] sc po) sc X.env po' (newList []) false (eval itr X.env) none) Qf X.xe t := by
  have hfree : ∀ y ∈ sc.names, y.2 = .free → ∃ c, X.env.cells.lookup y.1 = some c := fun y hy e => by
    rcases ok.free y hy e with k | k
    · exact J.ok.has _ (.inl k)
    · exact J.ok.has _ (.inr k)
  refine comprehension_at (use := none) rfl fo (closure_ok hfree) ok.kind (fun y hy e => by rw [ok.uniq y hy, e]) (wk n0 (pi.run pn t σ H _ J rd) fun xv t1 n1 hx => wk n1 hx fun iv t2 n2 h2 => ?_)
  obtain ⟨it, fp, tn, Jt, H2, e, J2, T, st2, f2, q⟩ := h2
  subst e
  refine wpAny_newObj_type (newEnv_comp ?_) (Nat.zero_le _)
  generalize hD : t2.heap.objs.size = D
  have Dn2 : H2 D = none := J2.hok.fresh (Nat.le_of_eq hD)
  obtain ⟨W, ⟨m0, w0⟩, turn⟩ := q D Dn2
  generalize ht3 : ({ t2 with heap := t2.heap.push { cls := .type "list", data := .seq ([] : List Value).toArray } } : Shared) = t3
  have n3 : 1 ≤ t3.toks := by rw [← ht3]; exact n2
  have hp3 : t3.heap = t2.heap.push { cls := .type "list", data := .seq ([] : List Value).toArray } := by rw [← ht3]
  have k23 : ∀ b u, t2.heap.get? b = some u → t3.heap.get? b = some u := fun b u e => by rw [hp3]; exact Heap.get?_push_of_some _ e
  have J3 : Inv X pn σ (upd H2 D (.lst [])) t3 := by
    rw [← ht3]
    refine J2.laid (t' := t2.toks) (fun b u e => Heap.get?_push_of_some _ e) (Nat.le_of_eq hD) ⟨Nat.zero_le _, [], 0, .nil, ?_⟩
    rw [← hD]; exact Heap.get?_push_size _ rfl
  have neD : ∀ b, b < t2.heap.objs.size → b ≠ D := fun b z => by rw [← hD]; exact Nat.ne_of_lt z
  have lt2 : ∀ b ∈ fp, b < t2.heap.objs.size := fun b hb => let ⟨o, e, _⟩ := T.obj _ _ st2 b hb; Heap.lt_size e
  have sz3 : t3.heap.objs.size = t2.heap.objs.size + 1 := by rw [hp3, Heap.size_push]
  have fp3 : ∀ b ∈ fp, FpOk X pn (upd H2 D (.lst [])) b ∧ b < t3.heap.objs.size := fun b hb => by
    have z := lt2 b hb
    exact ⟨⟨(upd_ne (neD b z)).trans (f2 b hb).1, (f2 b hb).2⟩, by rw [sz3]; exact Nat.lt_succ_of_lt z⟩
  have st3 : tn 0 t3.heap := T.keep _ _ _ st2 fun b _ u e => k23 b u e
  have J4 := block_start J3 ok nodup fp3
  generalize hcl : cellsFrom (t3.heap.objs.size + 1) sc.names (cloFrom X.env.cells sc.names []) = cls at J4 ⊢
  have k34 : ∀ b u, t3.heap.get? b = some u → (pushCells (t3.heap.push { cls := .type "dict", data := .dict #[] }) sc.names).get? b = some u := fun b u e => pushCells_keeps _ _ _ _ (Heap.get?_push_of_some _ e)
  have nfz : ∀ b ∈ fp, (upd H2 D (.lst [])) b = none := fun b hb => (fp3 b hb).1.1
  show codeAny _ _ (.compStart (.ListComp el [⟨tg, itr, [], 0⟩] sc po) 0 (.ref it) (.ref D) (compEnvC sc cls t3.heap.objs.size X.env)) (compEnds (model X.prog X.w) X.A X.xe none Qf (.ref D) (compEnvC sc cls t3.heap.objs.size X.env)) { t3 with heap := pushCells (t3.heap.push { cls := .type "dict", data := .dict #[] }) sc.names }
  have pg' := pg t3 (upd H2 D (.lst [])) t3.heap.objs.size cls fp
  have pe' := pe t3 (upd H2 D (.lst [])) t3.heap.objs.size cls fp
  have cF : (compEnvC sc cls t3.heap.objs.size X.env).frame = X.env.frame := rfl
  generalize hce : compEnvC sc cls t3.heap.objs.size X.env = ce at J4 pg' pe' cF ⊢
  have cL : ce.locals = t3.heap.objs.size := by subst hce; rfl
  generalize hz3 : upd H2 D (.lst []) = H3 at J3 J4 pg' pe' w0 nfz fp3
  generalize ht4 : ({ t3 with heap := pushCells (t3.heap.push { cls := .type "dict", data := .dict #[] }) sc.names } : Shared) = t4 at J4 ⊢
  have n4 : 1 ≤ t4.toks := by rw [← ht4]; exact n3
  have st4 : tn 0 t4.heap := T.keep _ _ _ st3 fun b _ u e => by rw [← ht4]; exact k34 b u e
  have stood : ∀ {σ' : L2.St} {H' : Hp} {t' : Shared}, Inv (X.blk t3 H3 sc ce fp) [] σ' H' t' → (∀ b ∈ fp, H' b = none) → ∀ b ∈ fp, FpOk (X.blk t3 H3 sc ce fp) [] H' b := fun {σ' H' t'} K n b hb =>
    ⟨n b hb, (K.ok.exf b hb).1, K.ok.exfs b hb, .inl hb, fun x c e => (K.ok.exf b hb).2 x c e, fun p hp => absurd (show p ∈ ([] : List (Addr × Obj)) ++ [] from hp) (by simp)⟩
  have loop : codeAny (model X.prog X.w) X.A (.compLoop (.ListComp el [⟨tg, itr, [], 0⟩] sc po) 0 (.ref it) (.ref D) ce) (compEnds (model X.prog X.w) X.A X.xe none Qf (.ref D) ce) t4 := by
    refine compLoop_any (fun n t' => 1 ≤ t'.toks ∧ ∃ i H', Inv (X.blk t3 H3 sc ce fp) [] (wipe σ (own.map (·.2))) H' t' ∧ tn i t'.heap ∧ (∀ b ∈ fp, H' b = none) ∧ W i n H') ?_ m0 ⟨n4, 0, H3, J4, st4, nfz, w0⟩
    rintro n t5 ⟨k5, i, H5, K5, st5, n5, w5⟩
    rcases turn i n H5 w5 with ⟨stop, qq⟩ | ⟨gg, Nx, hNx, step⟩
    · refine thnF (T.done (X.blk t3 H3 sc ce fp) rfl rfl rfl calm i [] t5 _ H5 (fun _ _ => False) K5 (stood K5 n5) st5 stop) fun r t6 ⟨hr, K6⟩ => ?_
      subst hr
      have J7 : Inv X pn σ H5 t6 := J3.call' (ch := fp) K6.os K6.base K6.hok K6.bare
        fun b hb => ⟨(fp3 b hb).1.2.2.2.1, (fp3 b hb).1.2.1, (fp3 b hb).1.2.2.2.2.1, (fp3 b hb).1.2.2.2.2.2⟩
      have nC : H5 t3.heap.objs.size = none := by have z : H5 ce.locals = none := K6.free; rw [cL] at z; exact z
      obtain ⟨mm, hn, _⟩ := K6.loc
      have hn : t6.heap.Ns ce.locals mm := hn
      rw [cL] at hn
      obtain ⟨m2, q1, q2⟩ := fin D t3.heap.objs.size t6 mm _ J7 qq hn (J3.fpOk (Nat.le_refl _) nC)
      exact ⟨m2, by rw [cL]; exact q1, fun h' sb => q2 h' (by rw [cL] at sb; exact sb)⟩
    · refine wkF k5 (T.item (X.blk t3 H3 sc ce fp) rfl rfl rfl calm i [] t5 _ H5 (fun _ _ => False) K5 (stood K5 n5) st5 gg) fun r t6 k6 ⟨u, hr, h6⟩ => ?_
      subst hr
      refine wkF k6 h6 fun _ t7 k7 ⟨x, H7, K7, r7, y7, st7, n7⟩ => ?_
      have K7' := K7.pinned (stood K7 n7) (T.obj _ _ st7)
      refine wkF k7 (pg'.run _ t7 _ H7 x u _ K7' r7 (step x H7 y7)) fun _ t8 k8 ⟨σ8, H8, K8, hw8, q8⟩ => ?_
      refine wkF k8 ((pts_nil (X := X.blk t3 H3 sc ce fp)).run _ t8 σ8 H8 (fun b G => b = true ∧ G = H8) K8 ⟨rfl, rfl⟩) fun b t9 k9 ⟨H9, K9, hb, eG⟩ => ?_
      subst hb eG
      simp only [if_true]
      generalize hxe : notedBy (model X.prog X.w) X.A ce (fun e s' => compEnds (model X.prog X.w) X.A X.xe none Qf (.ref D) ce (.error e) s') = xe
      have ps : Passes (L2.CX X.prog X.w) ((X.blk t3 H3 sc ce fp).tr ((X.blk t3 H3 sc ce fp).pn ++ ([] ++ pinsAt fp t7.heap)) xe) E := fun pp σp Hp sp e s' Ip c => by
        show xe e s'
        rw [← hxe]
        exact out_of_block (X := X) (σ := σ) (Wo := fun cls d _ H => E cls d H) tk hs hf cF cL J3 (fun b hb => (fp3 b hb).1) Ip (fun _ _ _ q => q) c
      refine wpAny_mono (wpAny_toks_of k9 (pe' _ xe ps [] t9 σ8 H9 _ k9 (K9.toTry xe) q8)) (fun z t10 hz10 => ?_) fun e s' q => q.2
      obtain ⟨k10, yv, H10, K10t, r10, acc, hD10, hz10, nx⟩ := hz10
      have K10 := K10t.ofTry K9.ok
      refine wpAny_with_toks k10 (app_ok (X := X.blk t3 H3 sc ce fp) K10 hD10 hz10 r10 fun t11 K11 k11 => ?_)
      obtain ⟨m', hm, w'⟩ := hNx _ nx
      have pin' : ∀ b ∈ fp, ∀ o, t7.heap.get? b = some o → t11.heap.get? b = some o ∧ (upd H10 D (.lst (acc ++ [yv]))) b = none := fun b hb o e =>
        let z := K11.pin (b, o) (List.mem_append_right _ (List.mem_append_right _ (mem_pinsAt hb e))); ⟨z.1, z.2.1⟩
      have hl : (wipe σ (own.map (·.2))).length = σ8.length := by rw [← hw8]; exact wipe_length _ _
      exact ⟨m', hm, k11, i + 1, _, (K11.unpinned (pins := [])).weak hl (fun j v e => by rw [← hw8] at e; exact (wipe_some e).1), T.keep _ _ _ st7 fun b hb o e => (pin' b hb o e).1,
        fun b hb => let ⟨o, e, _⟩ := T.obj _ _ st7 b hb; (pin' b hb o e).2, w'⟩
  exact codeAny_compStart_list loop (T.self X.A 0 _ _ _ st4 loop)
/-- a comprehension whose element may raise, and asks for a token -/
theorem pet_lcR {el tg itr : Expr} {sc : Scope} {own : List (Str × Nat)} {po : Pos} {wi : TI} {g : TG} {te : TE} (tk : Takes X (fun cls d _ H => E cls d H)) (hs : X.stack = X.env :: X.outer) (hf : X.env.frame = some X.env.locals) (calm : X.calm = true) (nodup : X.N.Nodup) (pi : PI X tg itr wi) (ok : BlkOk X.N X.env.scope sc own)
    (pg : ∀ (t : Shared) (H : Hp) (C : Addr) (cl : List (Str × Addr)) (fp : List Addr), PG (X.blk t H sc (compEnvC sc cl C X.env) fp) tg g)
    (pe : ∀ (t : Shared) (H : Hp) (C : Addr) (cl : List (Str × Addr)) (fp : List Addr) (pn : List (Addr × Obj)) (xe : Value → Shared → Prop), Passes (L2.CX X.prog X.w) ((X.blk t H sc (compEnvC sc cl C X.env) fp).tr pn xe) E → PET ((X.blk t H sc (compEnvC sc cl C X.env) fp).tr pn xe) el te)
    (fo : ∀ x, foldedSetIterable itr X.env x = pure x := by intro _; rfl) : PET X (.ListComp el [⟨tg, itr, [], 0⟩] sc po) (tLc wi g tYes te (own.map (·.2))) := by
  intro pn t σ H Q n0 J rd
  rw [eval_ListComp]
  refine lcT_core tk hs hf calm nodup n0 J pi ok pg pe fo rd fun D C t' m H' K q hn ⟨f0, f1, f2, f3, f4, f5⟩ => ⟨m, hn, fun h'' sb => ?_⟩
  exact ⟨.ref D, H', K.turned (t' := t'.toks) (fun b u hb e => (sb.2 b hb).trans e) f0 f1 f3 f4 f5, rfl, q⟩
end
end Sw
namespace Sw
open PySem PySem.Spec PyProof.Rows L2 Evl
/-! ### two except clauses, the second with a name; one of them takes what comes -/
def wTwo (K : PySem.W.Frag) (c1 : Value) (u1 : Addr → Value → Option Addr → TS) (c2 : Value) (i : Nat) (u2 : Addr → Value → Option Addr → TS) (D : Ends) : WX := fun cls d σ H =>
  ∃ b, PySem.W.exmOne K cls c1 = some b ∧ (b = true → ∀ a, H a = none → u1 a cls d D σ H) ∧
    (b = false → PySem.W.exmOne K cls c2 = some true ∧ ∀ a, H a = none → u2 a cls d { nx := fun τ G => D.nx (τ.set i none) G, rt := D.rt, bk := fun τ G => D.bk (τ.set i none) G, ct := fun τ G => D.ct (τ.set i none) G } (σ.set i (some (.ref a))) H)
section
variable {X : Cx} {body s1 s2 : List Stmt} {b1 b2 : Stmt} {x1 x2 nm : Str} {c1 c2 : Value} {i : Nat} {p1 p2 q1 q2 po : Pos} {tb : WX → TS} {u1 u2 : Addr → Value → Option Addr → TS}
theorem ps_try2 (hs : X.stack = X.env :: X.outer) (hf : X.env.frame = some X.env.locals) (nd : X.N.Nodup) (hi : X.N[i]? = some nm) (hl : X.env.kindOf nm = some .local) (n1 : Names X x1 c1) (n2 : Names X x2 c2)
    (pb : ∀ (W : WX) (pn : List (Addr × Obj)) (xe : Value → Shared → Prop), Takes (X.tr pn xe) W → PassesOwn (model X.prog X.w) X.A X.env xe → PSs (X.tr pn xe) body (tb W))
    (k1 : ∀ (a : Addr) (oe : Obj) (cls : Value) (d : Option Addr) (pn : List (Addr × Obj)), Zc cls d oe → (∃ vs, oe.data = .fields vs) → PSs (X.suite a ((a, oe) :: pn)) (b1 :: s1) (u1 a cls d))
    (k2 : ∀ (a : Addr) (oe : Obj) (cls : Value) (d : Option Addr) (pn : List (Addr × Obj)), Zc cls d oe → (∃ vs, oe.data = .fields vs) → PSs (X.suite a ((a, oe) :: pn)) (b2 :: s2) (u2 a cls d)) :
    PS X (.Try body [.ExceptHandler (some (.Name x1 p1)) none (b1 :: s1) q1, .ExceptHandler (some (.Name x2 p2)) (some nm) (b2 :: s2) q2] [] [] po) (fun D σ H => tb (wTwo X.K c1 u1 c2 i u2 D) D σ H) := by
  refine ⟨fun pn t σ H D J rd => ?_⟩
  have ok := J.ok
  have fr : X.A.frames = some (X.env :: X.outer) := by rw [ok.frames, hs]
  have lo : Loc X.env.scope nm := .inl hl
  refine wpAny_Try_except ?_
  refine wpAny_mono ((pb (wTwo X.K c1 u1 c2 i u2 D) (X.pn ++ pn) (fun e t1 => wpAny (model X.prog X.w) X.A (noteFrame e X.env) (fun _ t2 => wpAny (model X.prog X.w) X.A (setFlight e none) (fun _ t3 =>
    wpAny (model X.prog X.w) X.A (handleBy e X.env [.ExceptHandler (some (.Name x1 p1)) none (b1 :: s1) q1, .ExceptHandler (some (.Name x2 p2)) (some nm) (b2 :: s2) q2]) (SP X pn D) X.xe t3) X.xe t2) X.xe t1) (fun u t' got => ?_) PassesOwn.looking).run [] t σ H D (J.toTry _) rd) (fun f t1 out => ?_) (fun e t1 he => he)
  · obtain ⟨a, B, sI, pn', σ', H', cls, d, rfl, J', nb, up, sky, na, os, ag, b, m1, yes, no⟩ := got
    have J2 : Inv X pn σ' H' sI := J'.ofTry ok
    have sky2 : Sky B (X.env :: X.outer) a (Zc cls d) X.env.locals t'.heap := by rw [← hs]; exact sky
    show wpAny (model X.prog X.w) X.A (noteFrame (.ref a) X.env) _ _ _
    refine Sky.land Zc.steady fr hf sky2 fun h3 fl3 up3 => ?_
    have J3 : Inv X pn σ' H' { t' with heap := h3 } := J2.landed nb fl3.1 (up.trans up3) os ag
    obtain ⟨oe, vs, ge, ze, de⟩ := fl3.there
    have off : a ∉ frs (X.env :: X.outer) := fun hm => by
      obtain ⟨_, o2, g2, n⟩ := (fl3.2.2.1).mem hm
      rw [ge] at g2; cases g2
      exact n _ de
    have nL : a ≠ X.env.locals := fun z => off (List.mem_filterMap.mpr ⟨X.env, List.mem_cons_self, by rw [hf, z]⟩)
    have nF : a ∉ X.fs := fun hm => by
      obtain ⟨v, hv, q⟩ := List.mem_filterMap.mp hm
      exact off (List.mem_filterMap.mpr ⟨v, List.mem_cons_of_mem _ hv, q⟩)
    have S3 := J3.suite ge de na nL nF
    have looks : PySem.W.Looks (model X.prog X.w) h3 (typeOf (.ref a)) cls := fun A Q E t k q => wpAny_typeOf_ref (k _ _ ge) (by rw [ze.1]; exact q)
    have named : ∀ {x : Str} {c : Value} {np : Pos}, Names X x c → ∀ {Q : Value → Shared → Prop} {E : Value → Shared → Prop}, Q c { t' with heap := h3 } → wpAny (model X.prog X.w) (X.A.mark (some (.ref a))) (eval (.Name x np) X.env) Q E { t' with heap := h3 } := fun {x c np} hc {Q E} q => by
      obtain ⟨g, db, m | ⟨m, v, nn⟩⟩ := hc
      · exact ld_glob (X := X.suite a ((a, oe) :: (X.pn ++ pn))) S3 g m q db
      · exact ld_blt (X := X.suite a ((a, oe) :: (X.pn ++ pn))) S3 g m v q nn db
    refine wpAny_handleBy_cons (codeAny_handlers_test ?_) (by intro q; cases q)
    have M1 := PySem.W.exm_one (M := model X.prog X.w) J3.kIn looks m1
    refine named n1 (M1.here ?_)
    cases b with
    | true =>
      refine codeAny_handlers_suite ?_
      refine HandSPX.lands_againZ fl3 fun h4 fl4 up4 => ?_
      have J4 : Inv X pn σ' H' { t' with heap := h4 } := J2.landed nb fl4.1 ((up.trans up3).trans up4) os ag
      obtain ⟨oe4, vs4, ge4, ze4, de4⟩ := fl4.there
      have S4 := J4.suite ge4 de4 na nL nF
      refine wpAny_mono ((k1 a oe4 cls d (X.pn ++ pn) ze4 ⟨_, de4⟩).run [] _ _ H' _ S4 (yes rfl a na)) (fun f t6 out => ?_) (fun _ _ z => False.elim z)
      cases f with
      | next => obtain ⟨_, _, S6, q6⟩ := out; exact ⟨_, _, S6.unsuite ok, q6⟩
      | brk => obtain ⟨_, _, S6, q6⟩ := out; exact ⟨_, _, S6.unsuite ok, q6⟩
      | cont => obtain ⟨_, _, S6, q6⟩ := out; exact ⟨_, _, S6.unsuite ok, q6⟩
      | ret u => obtain ⟨_, _, _, S6, r6, q6⟩ := out; exact ⟨_, _, _, S6.unsuite ok, r6, q6⟩
    | false =>
      obtain ⟨m2, no2⟩ := no rfl
      show wpAny _ X.A (handleBy (.ref a) X.env [.ExceptHandler (some (.Name x2 p2)) (some nm) (b2 :: s2) q2]) _ _ _
      refine wpAny_handleBy_cons (codeAny_handlers_test ?_) (by intro q; cases q)
      have M2 := PySem.W.exm_one (M := model X.prog X.w) J3.kIn looks m2
      refine named n2 (M2.here ?_)
      refine codeAny_handlers_suite_as ?_
      refine HandSPX.lands_againZ fl3 fun h4 fl4 up4 => ?_
      have J4 : Inv X pn σ' H' { t' with heap := h4 } := J2.landed nb fl4.1 ((up.trans up3).trans up4) os ag
      obtain ⟨oe4, vs4, ge4, ze4, de4⟩ := fl4.there
      have S4 := J4.suite ge4 de4 na nL nF
      refine store_ok (X := X.suite a ((a, oe4) :: (X.pn ++ pn))) (v := .ref a) S4 nd hi lo rfl (fun t5 S5 => ?_) (.inr hl)
      refine wpAny_mono ((k2 a oe4 cls d (X.pn ++ pn) ze4 ⟨_, de4⟩).run [] t5 _ H' _ S5 (no2 a na)) (fun f t6 out => ?_) (fun _ _ z => False.elim z)
      have close : ∀ {σ6 : L2.St} {H6 : Hp} {Q : Shared → Prop}, Inv (X.suite a ((a, oe4) :: (X.pn ++ pn))) [] σ6 H6 t6 → (∀ t7, Inv X pn (σ6.set i none) H6 t7 → Q t7) →
          wpAny (model X.prog X.w) X.A (do bindName X.env nm .none; unbindBehindTheSuite X.env nm q2) (fun _ t7 => Q t7) X.xe t6 := fun {σ6 H6 Q} S6 hq => gone_ok (S6.unsuite ok) nd hi hl hq
      cases f with
      | next => obtain ⟨_, _, S6, q6⟩ := out; exact close S6 fun t7 J7 => ⟨_, _, J7, q6⟩
      | brk => obtain ⟨_, _, S6, q6⟩ := out; exact close S6 fun t7 J7 => ⟨_, _, J7, q6⟩
      | cont => obtain ⟨_, _, S6, q6⟩ := out; exact close S6 fun t7 J7 => ⟨_, _, J7, q6⟩
      | ret u => obtain ⟨_, _, _, S6, r6, q6⟩ := out; exact close S6 fun t7 J7 => ⟨_, _, _, J7, r6, q6⟩
  · cases f with
    | next => obtain ⟨_, _, J', q⟩ := out; exact wpAny_execs_nil ⟨_, _, J'.ofTry ok, q⟩
    | brk => obtain ⟨_, _, J', q⟩ := out; exact ⟨_, _, J'.ofTry ok, q⟩
    | cont => obtain ⟨_, _, J', q⟩ := out; exact ⟨_, _, J'.ofTry ok, q⟩
    | ret u => obtain ⟨_, _, _, J', r, q⟩ := out; exact ⟨_, _, _, J'.ofTry ok, r, q⟩
end
end Sw
namespace Sw
open PySem PySem.Spec PyProof.Rows L2 Evl SX
/-! ### evaluating texts -/
def vs_ (l : List Nat) : V := .str (S l)
def rRj : V → List V → Hp → VK → Prop := fun x xs H Q => ∃ (a : Str) (i : Int), x = .str a ∧ xs = [.int i] ∧ PadOk i = true ∧ Q (.str (Txt.rjust a i)) H
def rLs : V → List V → Hp → VK → Prop := fun x xs H Q => ∃ a b, x = .str a ∧ xs = [.str b] ∧ a.length ≤ sizeLine ∧ Q (.str (Txt.lstripChars a b)) H
def rAsc : V → List V → Hp → VK → Prop := fun x xs H Q => ∃ a, x = .str a ∧ xs = [] ∧ True ∧ Q (.bl (Txt.isascii a)) H
def rDig : V → List V → Hp → VK → Prop := fun x xs H Q => ∃ a, x = .str a ∧ xs = [] ∧ Q (.bl (Txt.isdigit a)) H
def rSpl : V → List V → Hp → VK → Prop := fun x xs H Q => ∃ a b, x = .str a ∧ xs = [.str b] ∧ (b.length == 0) = false ∧ a.length + 2 ≤ sizeLine ∧ rNewStrs (Txt.split a b) H Q
def rJn (K : PySem.W.Frag) : V → List V → Hp → VK → Prop := fun x xs H Q => ∃ a p, ∃ ys : List Str, x = .str a ∧ xs = [.ref p] ∧ (SqL K H p (ys.map V.str) ∨ SqT K H p (ys.map V.str)) ∧ (ys.map (·.length)).sum + ys.length * a.length ≤ 16777216 ∧ Q (.str (Txt.join a ys)) H
def rLenT : List V → Hp → VK → Prop := fun xs H Q => ∃ z, xs = [.str z] ∧ z.length ≤ sizeLine ∧ Q (.int z.length) H
def rStrI : List V → Hp → VK → Prop := fun xs H Q => ∃ i, xs = [.int i] ∧ i.natAbs.log2 < 1920 ∧ Q (.str (toString i)) H
def rIntS : List V → Hp → VK → Prop := fun xs H Q => ∃ a n, xs = [.str a] ∧ PySem.intText? a = some n ∧ a.length ≤ 640 ∧ Q (.int n) H
def rAddS' : R2 := fun x y H Q => ∃ i j, x = .str i ∧ y = .str j ∧ i.length + j.length ≤ sizeLine ∧ Q (.str (i ++ j)) H
def rLeS : R2 := fun x y H Q => ∃ i j, x = .str i ∧ y = .str j ∧ Q (.bl (!decide (j.cps.toList < i.cps.toList))) H
section
variable {X : Cx}
theorem mt_rj : MtR X "str.rjust" rRj := mt_rjust
theorem mt_ls : MtR X "str.lstrip" rLs := mt_lstripChars
theorem mt_asc : MtR X "str.isascii" rAsc := mt_isascii
theorem mt_dig : MtR X "str.isdigit" rDig := by
  intro pn t σ H x xs v us Q J rx rv h
  obtain ⟨a, rfl, rfl, q⟩ := h
  exact mt_isdigit pn t σ H _ _ v us Q J rx rv ⟨a, rfl, rfl, trivial, q⟩
theorem mt_spl : MtR X "str.split" rSpl := mt_split
theorem mt_jn (K : PySem.W.Frag) (hK : X.K = K) : MtR X "str.join" (rJn K) := by
  subst hK
  exact mt_join
theorem cr_lenT : CallR X (.builtin "len") rLenT := call_len_str
theorem cr_strI : CallR X (.type "str") rStrI := call_str_int
theorem cr_intS : CallR X (.type "int") rIntS := call_int_str
theorem op_addS' : OpR X (binaryOp .Add) rAddS' := op_add_str
theorem op_leS : OpR X (compareOp .LtE) rLeS := op_le_str
end
section
variable {K : PySem.W.Frag} {σ : L2.St} {H H' : Hp} {ta tb tc te to tx : TE} {l m : List Nat} {x y v : V} {a b p : Addr} {xs ys : List V}
theorem ev_rj {w : Nat} (ho : Ev to σ H (vs_ l)) (he : Ev te σ H (.int (w : Int))) (hw : w ≤ 1000) : Ev (tM1 rRj to te) σ H (vs_ (padL w l)) := fun H1 e Q q => ho H1 e _ fun H2 e2 => ⟨⟨_, rfl⟩, he H2 (e.trans e2) _ fun H3 e3 =>
  ⟨S l, (w : Int), rfl, rfl, padOk_of (by omega) (by omega), by rw [rjust_S]; exact q H3 (e2.trans e3)⟩⟩
theorem ev_ls (ho : Ev to σ H (vs_ l)) (he : Ev te σ H (vs_ [32])) (hl : l.length ≤ 100000) : Ev (tM1 rLs to te) σ H (vs_ (lst l)) := fun H1 e Q q => ho H1 e _ fun H2 e2 => ⟨⟨_, rfl⟩, he H2 (e.trans e2) _ fun H3 e3 =>
  ⟨S l, S [32], rfl, rfl, by rw [S_len]; exact sz_of hl, by rw [lstrip_S]; exact q H3 (e2.trans e3)⟩⟩
theorem ev_asc (ho : Ev to σ H (vs_ l)) : Ev (tM0 rAsc to) σ H (.bl (Txt.isascii (S l))) := fun H1 e Q q => ho H1 e _ fun H2 e2 => ⟨⟨_, rfl⟩, S l, rfl, rfl, trivial, q H2 e2⟩
theorem ev_dig (ho : Ev to σ H (vs_ l)) : Ev (tM0 rDig to) σ H (.bl (Txt.isdigit (S l))) := fun H1 e Q q => ho H1 e _ fun H2 e2 => ⟨⟨_, rfl⟩, S l, rfl, rfl, q H2 e2⟩
theorem map_vs (ls : List (List Nat)) : (ls.map S).map V.str = ls.map vs_ := by rw [List.map_map]; rfl
theorem el_spl {c : Nat} (hc : c < 256) (ho : Ev to σ H (vs_ l)) (he : Ev te σ H (vs_ [c])) (hl : l.length ≤ 100000) : EvL (tM1 rSpl to te) σ H ((TL.spl [c] 0 [] l).map vs_) := fun H1 e Q q => ho H1 e _ fun H2 e2 => ⟨⟨_, rfl⟩, he H2 (e.trans e2) _ fun H3 e3 =>
  ⟨S l, S [c], rfl, rfl, rfl, by rw [S_len]; exact Nat.le_trans (Nat.add_le_add_right hl 2) (by decide), fun r hr => by
    rw [split_S (b := [c]) (by simp) (by simpa using hc), map_vs]
    exact q r _ (fresh_back (e2.trans e3) hr) ((e2.trans e3).trans (Ex.new hr)) upd_same⟩⟩
theorem lens_sum (ls : List (List Nat)) : ((ls.map S).map (·.length)).sum = (ls.map (·.length)).sum := by rw [lens]
theorem ev_jn {ls : List (List Nat)} {c : List Nat} (ho : Ev to σ H (vs_ c)) (he : EvL te σ H (ls.map vs_)) (hz : (ls.map (·.length)).sum + ls.length * c.length ≤ 16777216) : Ev (tM1 (rJn K) to te) σ H (vs_ (TL.joinL c ls)) := fun H1 e Q q => ho H1 e _ fun H2 e2 => ⟨⟨_, rfl⟩, he H2 (e.trans e2) _ fun r H3 _ e3 h3 =>
  ⟨S c, r, ls.map S, rfl, rfl, .inl (sq_of (by rw [map_vs]; exact h3)), by rw [lens_sum, List.length_map, S_len]; exact hz, by rw [join_S]; exact q H3 (e2.trans e3)⟩⟩
theorem ev_jnV {ls : List (List Nat)} {c : List Nat} (ho : Ev to σ H (vs_ c)) (he : Ev te σ H (.ref p)) (hp : SqL K H p (ls.map vs_)) (hz : (ls.map (·.length)).sum + ls.length * c.length ≤ 16777216) : Ev (tM1 (rJn K) to te) σ H (vs_ (TL.joinL c ls)) := fun H1 e Q q => ho H1 e _ fun H2 e2 => ⟨⟨_, rfl⟩, he H2 (e.trans e2) _ fun H3 e3 =>
  ⟨S c, p, ls.map S, rfl, rfl, .inl (by rw [map_vs]; exact ex_l ((e.trans e2).trans e3) hp), by rw [lens_sum, List.length_map, S_len]; exact hz, by rw [join_S]; exact q H3 (e2.trans e3)⟩⟩
theorem ev_lnT (h : Ev ta σ H (vs_ l)) (hl : l.length ≤ 100000) : Ev (tCB rLenT (tCons ta tNil)) σ H (.int (l.length : Int)) := fun H1 e Q q => h H1 e _ fun H2 e2 => ⟨S l, rfl, by rw [S_len]; exact sz_of hl, by rw [S_len]; exact q H2 e2⟩
theorem ev_strI {n : Nat} (h : Ev ta σ H (.int (n : Int))) (hn : n < 10 ^ 40) : Ev (tCB rStrI (tCons ta tNil)) σ H (vs_ (TL.numL n)) := fun H1 e Q q => h H1 e _ fun H2 e2 => ⟨(n : Int), rfl, comma_small hn, by
  have z := q H2 e2
  unfold vs_ at z
  rw [← num_S] at z
  exact z⟩
theorem ev_intS (h : Ev ta σ H (vs_ l)) (hd : ∀ c ∈ l, isD c = true) (hn : l ≠ []) (hl : l.length ≤ 600) : Ev (tCB rIntS (tCons ta tNil)) σ H (.int ((NumText.digitsVal l : Nat) : Int)) := fun H1 e Q q => h H1 e _ fun H2 e2 =>
  ⟨S l, _, rfl, int_S (List.all_eq_true.mpr hd) hn (by omega), by rw [S_len]; omega, q H2 e2⟩
theorem ev_addS (ha : Ev ta σ H (vs_ l)) (hb : Ev tb σ H (vs_ m)) (hz : l.length + m.length ≤ 100000) : Ev (tOp rAddS' ta tb) σ H (vs_ (l ++ m)) := fun H1 e Q q => ha H1 e _ fun H2 e2 => hb H2 (e.trans e2) _ fun H3 e3 =>
  ⟨S l, S m, rfl, rfl, by rw [S_len, S_len]; exact sz_of hz, by rw [S_cat]; exact q H3 (e2.trans e3)⟩
theorem ev_mid {tl th : TE} {i j : Int} (ha : Ev ta σ H (vs_ l)) (h1 : Ev tl σ H (.int i)) (h2 : Ev th σ H (.int j)) (i0 : 0 ≤ i) (ij : i ≤ j) (hz : l.length ≤ 100000) : Ev (tSl C8.rSlX ta (tPart tl) (tPart th)) σ H (vs_ ((l.drop i.toNat).take (j - i).toNat)) := fun H1 e Q q =>
  ha H1 e _ fun H2 e2 => h1 H2 (e.trans e2) _ fun H3 e3 => ⟨i, rfl, h2 H3 ((e.trans e2).trans e3) _ fun H4 e4 => ⟨j, rfl, S l, rfl, by rw [S_len]; exact sz_of hz, by rw [sl_mid i0 ij]; exact q H4 ((e2.trans e3).trans e4)⟩⟩
theorem ev_to {th : TE} {j : Int} (ha : Ev ta σ H (vs_ l)) (h2 : Ev th σ H (.int j)) (j0 : 0 ≤ j) (hz : l.length ≤ 100000) : Ev (tSl C8.rSlX ta tNoPart (tPart th)) σ H (vs_ (l.take j.toNat)) := fun H1 e Q q =>
  ha H1 e _ fun H2 e2 => h2 H2 (e.trans e2) _ fun H4 e4 => ⟨j, rfl, S l, rfl, by rw [S_len]; exact sz_of hz, by rw [slice_to j0]; exact q H4 (e2.trans e4)⟩
theorem ev_from {tl : TE} {i : Int} (ha : Ev ta σ H (vs_ l)) (h1 : Ev tl σ H (.int i)) (i0 : 0 ≤ i) (hz : l.length ≤ 100000) : Ev (tSl C8.rSlX ta (tPart tl) tNoPart) σ H (vs_ (l.drop i.toNat)) := fun H1 e Q q =>
  ha H1 e _ fun H2 e2 => h1 H2 (e.trans e2) _ fun H4 e4 => ⟨i, rfl, S l, rfl, by rw [S_len]; exact sz_of hz, by rw [slice_from i0]; exact q H4 (e2.trans e4)⟩
theorem vs_inj {l m : List Nat} (h : vs_ l = vs_ m) : l = m := S_inj (V.str.inj h)
theorem rv_neS : RV rNe (vs_ l) (vs_ m) H (.bl (!decide (l = m))) := fun H1 _ _ q => ⟨rfl, by
  have e : decide (vs_ l = vs_ m) = decide (l = m) := decide_eq_decide.mpr ⟨vs_inj, fun z => by rw [z]⟩
  have z := q H1 (Ex.refl _)
  rw [← e] at z
  exact z⟩
theorem rv_eqS : RV rEq (vs_ l) (vs_ m) H (.bl (decide (l = m))) := fun H1 _ _ q => ⟨rfl, by
  have e : decide (vs_ l = vs_ m) = decide (l = m) := decide_eq_decide.mpr ⟨vs_inj, fun z => by rw [z]⟩
  have z := q H1 (Ex.refl _)
  rw [← e] at z
  exact z⟩
theorem ev_ixSt {i c : Nat} (ha : Ev ta σ H (vs_ l)) (hb : Ev tb σ H (.int (i : Int))) (hc : l[i]? = some c) (hz : l.length ≤ 100000) : Ev (tOp rIxS ta tb) σ H (vs_ [c]) := fun H1 e Q q => ha H1 e _ fun H2 e2 => hb H2 (e.trans e2) _ fun H3 e3 =>
  ⟨S l, (i : Int), c, rfl, rfl, by rw [S_len]; exact sz_of hz, by
    have lt := (List.getElem?_eq_some_iff.mp hc).1
    unfold atI
    rw [ixN_nat (show i < (S l).cps.toList.length from lt)]
    exact hc, q H3 (e2.trans e3)⟩
theorem lt_one {a b : Nat} : (decide (([a] : List Nat) < [b])) = decide (a < b) := by
  apply decide_eq_decide.mpr
  simp [List.cons_lt_cons_iff]
/-- "0" <= c <= "9" -/
theorem ev_inD {c : Nat} (hb : Ev tb σ H (vs_ [c])) (ha : Ev ta σ H (vs_ [48])) (hc : Ev tc σ H (vs_ [57])) : Ev (tChain rLeS rLeS ta tb tc) σ H (.bl (isD c)) := fun H1 e Q q =>
  ha H1 e _ fun H2 e2 => hb H2 (e.trans e2) _ fun H3 e3 => ⟨S [48], S [c], rfl, rfl, _, rfl, by
    have e48 : (!decide ((S [c]).cps.toList < (S [48]).cps.toList)) = decide (48 ≤ c) := by
      show (!decide (([c] : List Nat) < [48])) = _
      rw [lt_one]
      by_cases z : 48 ≤ c
      · rw [decide_eq_false (by omega), decide_eq_true z]; rfl
      · rw [decide_eq_true (by omega), decide_eq_false z]; rfl
    rw [e48]
    unfold isD at q
    cases hd : decide (48 ≤ c) with
    | false => rw [hd] at q; exact q H3 (e2.trans e3)
    | true =>
      rw [hd] at q
      refine hc H3 ((e.trans e2).trans e3) _ fun H4 e4 => ⟨S [c], S [57], rfl, rfl, ?_⟩
      have e57 : (!decide ((S [57]).cps.toList < (S [c]).cps.toList)) = decide (c ≤ 57) := by
        show (!decide (([57] : List Nat) < [c])) = _
        rw [lt_one]
        by_cases z : c ≤ 57
        · rw [decide_eq_false (by omega), decide_eq_true z]; rfl
        · rw [decide_eq_true (by omega), decide_eq_false z]; rfl
      rw [e57]
      exact q H4 ((e2.trans e3).trans e4)⟩
end
/-! ### tuples of the module -/
def KT (K : PySem.W.Frag) (a : Addr) (xs : List V) : Prop := ∃ (o : Obj) (its : Array Value) (n : Nat), K.lookup a = some o ∧ o.cls = .type "tuple" ∧ o.data = .seq its n ∧ its.size ≤ sizeLine ∧ Vals xs its.toList
theorem KT.sq {K : PySem.W.Frag} {a : Addr} {xs : List V} (h : KT K a xs) {H : Hp} : SqT K H a xs := .inr h
def hdr5 : List (List Nat) := [[100, 97, 121], [98, 97, 107, 101, 100], [115, 111, 108, 100], [109, 105, 115, 115, 101, 100], [116, 104, 114, 111, 119, 110]]
structure ColsOk (K : PySem.W.Frag) (a : Addr) : Prop where
  at_ : ∃ ps : List Addr, KT K a (ps.map V.ref) ∧ ps.length = 5 ∧ ∀ (i : Nat) q, ps[i]? = some q → KT K q [vs_ (hdr5.getD i []), .int ((ws5.getD i 0 : Nat) : Int)]
theorem kt_pair {K : PySem.W.Frag} {a : Addr} {l : List Nat} {w : Int} {od : Option Addr} {k j : Tok} {n : Nat} {ol : Array (Option Value)} (h : K.lookup a = some ⟨.type "tuple", od, .seq #[.str (SX.S l) k, .int w j] n, ol⟩) : KT K a [vs_ l, .int w] :=
  ⟨_, _, _, h, rfl, rfl, by show 2 ≤ sizeLine; decide, .cons ⟨_, rfl⟩ (.cons ⟨_, rfl⟩ .nil)⟩
theorem colsOk_mk {K : PySem.W.Frag} {a t0 t1 t2 t3 t4 : Addr} {od o0 o1 o2 o3 o4 : Option Addr} {n n0 n1 n2 n3 n4 : Nat} {ol l0 l1 l2 l3 l4 : Array (Option Value)} {k0 k1 k2 k3 k4 j0 j1 j2 j3 j4 : Tok}
    (h : K.lookup a = some ⟨.type "tuple", od, .seq #[.ref t0, .ref t1, .ref t2, .ref t3, .ref t4] n, ol⟩)
    (h0 : K.lookup t0 = some ⟨.type "tuple", o0, .seq #[.str (SX.S [100, 97, 121]) k0, .int 26 j0] n0, l0⟩) (h1 : K.lookup t1 = some ⟨.type "tuple", o1, .seq #[.str (SX.S [98, 97, 107, 101, 100]) k1, .int 14 j1] n1, l1⟩)
    (h2 : K.lookup t2 = some ⟨.type "tuple", o2, .seq #[.str (SX.S [115, 111, 108, 100]) k2, .int 14 j2] n2, l2⟩) (h3 : K.lookup t3 = some ⟨.type "tuple", o3, .seq #[.str (SX.S [109, 105, 115, 115, 101, 100]) k3, .int 14 j3] n3, l3⟩)
    (h4 : K.lookup t4 = some ⟨.type "tuple", o4, .seq #[.str (SX.S [116, 104, 114, 111, 119, 110]) k4, .int 14 j4] n4, l4⟩) : ColsOk K a :=
  ⟨[t0, t1, t2, t3, t4], ⟨_, _, _, h, rfl, rfl, by show 5 ≤ sizeLine; decide, .cons rfl (.cons rfl (.cons rfl (.cons rfl (.cons rfl .nil))))⟩, rfl, fun i q hq => match i, hq with
    | 0, hq => by cases hq; exact kt_pair h0
    | 1, hq => by cases hq; exact kt_pair h1
    | 2, hq => by cases hq; exact kt_pair h2
    | 3, hq => by cases hq; exact kt_pair h3
    | 4, hq => by cases hq; exact kt_pair h4
    | _ + 5, hq => by cases hq⟩
section
variable {K : PySem.W.Frag} {σ : L2.St} {H H' : Hp} {ta tb tc te to tx : TE} {tt : TT} {l m : List Nat} {x y v : V} {a b p : Addr} {xs ys : List V} {n : Nat}
theorem walk_zipM (lx : xs.length = n) (ly : ys.length = n) : Walk (ItzM K a b) n (fun H => SqL K H a xs ∧ SqT K H b ys) (YPair (fun i => xs[i]?) (fun i => ys[i]?)) := by
  refine ⟨fun i _ hi q => ⟨xs, ys, xs[i]'(by omega), ys[i]'(by omega), q.1, q.2, by simp, by simp⟩, fun _ q => ⟨xs, ys, q.1, q.2, lx, ly⟩, fun i H v H' _ q h => ?_⟩
  obtain ⟨T, x, y, h1, h2, h3, h4, h5⟩ := h
  exact ⟨T, x, y, h1, h2, h3, h4 xs q.1, h5 ys q.2⟩
/-- [e for x, (y, z) in zip(l, COLUMNS)] -/
theorem el_lcZM {t : TA} {j1 j2 j3 : Nat} {us : List Nat} (h : EvA t σ H [.ref a, .ref b]) (hx : SqL K H a xs) (hb : ColsOk K b) (lx : xs.length = 5) (v : Nat → V)
    (hw : ∀ x y z, wipe ((((wipe σ us).set j1 (some x)).set j2 (some y)).set j3 (some z)) us = wipe σ us)
    (he : ∀ (i : Nat) x H1, Ex H H1 → xs[i]? = some x → Ev te ((((wipe σ us).set j1 (some x)).set j2 (some (vs_ (hdr5.getD i [])))).set j3 (some (.int ((ws5.getD i 0 : Nat) : Int)))) H1 (v i)) :
    EvL (tLc (iZipM K t) (gTup K 2 (gCons (gName j1) (gCons (gTup K 2 (gCons (gName j2) (gCons (gName j3) gNil))) gNil))) tYes te us) σ H ((List.range 5).map v) := fun H0 e0 Q q =>
  h H0 e0 _ fun H1 e1 => by
    obtain ⟨ps, kt, lp, kq⟩ := hb.at_
    refine ⟨a, b, xs, ps.map V.ref, rfl, ex_l (e0.trans e1) hx, kt.sq, fun Dl hD => ?_⟩
    rw [← given_all] at q
    have e01 := e0.trans e1
    refine lc_it (walk_zipM (K := K) (a := a) (b := b) (xs := xs) (ys := ps.map V.ref) (n := 5) lx (by rw [List.length_map, lp])) (Cw H1 (fun _ => true) v Dl) ⟨hD, Ex.new hD, upd_same⟩ (fun i H' _ p => ⟨ex_l (e01.trans p.2.1) hx, kt.sq⟩) (fun i w H' H2 hi p y => ?_) (fun H' p => q Dl H' (fresh_back e1 p.1) (e1.trans p.2.1) p.2.2)
    obtain ⟨T, x, y, rfl, hT, rfl, q1, q2⟩ := y
    have p' : Cw H1 (fun _ => true) v Dl i (upd H' T (.tup [x, y])) := ⟨p.1, p.2.1.trans (Ex.new hT), (Ex.new hT) _ _ p.2.2⟩
    have q2 : (ps.map V.ref)[i]? = some y := q2
    rw [List.getElem?_map] at q2
    obtain ⟨r, hr, rfl⟩ := Option.map_eq_some_iff.mp q2
    refine ⟨T, [x, .ref r], rfl, st_of upd_same, rfl, x, [.ref r], rfl, .ref r, [], rfl, r, _, rfl, (kq i r hr).sq, rfl, _, _, rfl, _, _, rfl, rfl, rfl, hw _ _ _, ?_⟩
    exact cw_turn p' (by omega) et_yes (fun _ => he i x H1 e01 q1)
/-- [e for x, y in COLUMNS] -/
theorem el_lcCol {tl : TE} {j1 j2 : Nat} {us : List Nat} (h : Ev tl σ H (.ref b)) (hb : ColsOk K b) (v : Nat → V) (hw : ∀ x y, wipe (((wipe σ us).set j1 (some x)).set j2 (some y)) us = wipe σ us)
    (he : ∀ (i : Nat) H1, Ex H H1 → i < 5 → Ev te (((wipe σ us).set j1 (some (vs_ (hdr5.getD i [])))).set j2 (some (.int ((ws5.getD i 0 : Nat) : Int)))) H1 (v i)) :
    EvL (tLc (iTup K tl) (gTup K 2 (gCons (gName j1) (gCons (gName j2) gNil))) tYes te us) σ H ((List.range 5).map v) := fun H0 e0 Q q =>
  h H0 e0 _ fun H1 e1 => by
    obtain ⟨ps, kt, lp, kq⟩ := hb.at_
    refine ⟨b, rfl, ⟨_, kt.sq⟩, fun Dl hD => ?_⟩
    rw [← given_all] at q
    have e01 := e0.trans e1
    have w5 := walk_tup (K := K) (a := b) (xs := ps.map V.ref)
    rw [List.length_map, lp] at w5
    refine lc_it w5 (Cw H1 (fun _ => true) v Dl) ⟨hD, Ex.new hD, upd_same⟩ (fun i H' _ p => kt.sq) (fun i w H' H2 hi p y => ?_) (fun H' p => q Dl H' (fresh_back e1 p.1) (e1.trans p.2.1) p.2.2)
    obtain ⟨rfl, q2⟩ := y
    rw [List.getElem?_map] at q2
    obtain ⟨r, hr, rfl⟩ := Option.map_eq_some_iff.mp q2
    refine ⟨r, _, rfl, (kq i r hr).sq, rfl, _, _, rfl, _, _, rfl, rfl, hw _ _, ?_⟩
    exact cw_turn p (by omega) et_yes (fun _ => he i H1 e01 hi)
/-- for x, y in COLUMNS -/
theorem q_forCol {tl : TE} {j1 j2 : Nat} {tu tz : TS} {D : Ends} (h : Ev tl σ H (.ref b)) (hb : ColsOk K b) (Pv : Nat → L2.St → Hp → Prop) (h0 : ∀ H1, Ex H H1 → Pv 0 σ H1)
    (hs : ∀ i σ' H', i < 5 → Pv i σ' H' → tu { D with nx := Pv (i + 1), ct := Pv (i + 1), bk := tz D } ((σ'.set j1 (some (vs_ (hdr5.getD i [])))).set j2 (some (.int ((ws5.getD i 0 : Nat) : Int)))) H')
    (hd : ∀ σ' H', Pv 5 σ' H' → tz D σ' H') : tSeq (tFor (iTup K tl) (gTup K 2 (gCons (gName j1) (gCons (gName j2) gNil))) tu) tz D σ H := h H (Ex.refl H) _ fun H1 e1 => by
  obtain ⟨ps, kt, lp, kq⟩ := hb.at_
  refine ⟨b, rfl, ⟨_, kt.sq⟩, ?_⟩
  have w5 := walk_tup (K := K) (a := b) (xs := ps.map V.ref)
  rw [List.length_map, lp] at w5
  refine for_it w5 Pv (h0 H1 e1) (fun i σ' H' _ p => kt.sq) (fun i w σ' H' H2 hi p y => ?_) hd
  obtain ⟨rfl, q2⟩ := y
  rw [List.getElem?_map] at q2
  obtain ⟨r, hr, rfl⟩ := Option.map_eq_some_iff.mp q2
  exact ⟨r, _, rfl, (kq i r hr).sq, rfl, _, _, rfl, _, _, rfl, rfl, hs i σ' _ hi p⟩
/-- [e for c in text if t] -/
theorem el_lcSt {j : Nat} {us : List Nat} {te2 : TE} (f : Nat → Bool) (v : Nat → V) (h : Ev tx σ H (vs_ l)) (hz : l.length ≤ 40000) (hw : ∀ x, wipe ((wipe σ us).set j (some x)) us = wipe σ us)
    (ht : ∀ (i : Nat) c H1, Ex H H1 → l[i]? = some c → EvT tt ((wipe σ us).set j (some (vs_ [c]))) H1 (f i)) (he : ∀ (i : Nat) c H1, Ex H H1 → l[i]? = some c → f i = true → Ev te2 ((wipe σ us).set j (some (vs_ [c]))) H1 (v i)) :
    EvL (tLc (iStr tx) (gName j) tt te2 us) σ H (given l.length f v) := fun H0 e0 Q q => h H0 e0 _ fun H1 e1 => ⟨S l, rfl, fun Dl hD => by
    have e01 := e0.trans e1
    have ws := walk_str (z := S l)
    have sz : (S l).cps.size = l.length := rfl
    rw [sz] at ws
    refine lc_it ws (Cw H1 f v Dl) ⟨hD, Ex.new hD, upd_same⟩ (fun _ _ _ _ => trivial) (fun i w H' H2 hi p y => ?_) (fun H' p => q Dl H' (fresh_back e1 p.1) (e1.trans p.2.1) p.2.2)
    obtain ⟨rfl, c, hc, rfl⟩ := y
    have hc2 : l[i]? = some c := by
      have z : (S l).cps.toList[i]? = some c := by rw [Array.getElem?_toList]; exact hc
      exact z
    exact ⟨hw _, cw_turn p (by omega) (ht i c H1 e01 hc2) (fun hf => he i c H1 e01 hc2 hf)⟩⟩
end
end Sw
namespace Sw
open PySem PySem.Spec PyProof.Rows L2 Evl
def topS (i : Nat) : Stmt := PySem.Challenge.pw_staleloaves_k47_reports.main.body.getD i (.Pass ⟨0, 0, 0, 0⟩)
abbrev s_InvalidReport___init__ : Stmt := inClass (topS 5) 0
abbrev n_InvalidReport___init__ : List Str := ["self", "row", "__class__"]
abbrev p_InvalidReport___init__ : List Str := ["self", "row"]
theorem sc_InvalidReport___init__ : NdefX.NScope n_InvalidReport___init__ p_InvalidReport___init__ ["__class__"] (defScope s_InvalidReport___init__) := NdefX.nscope_by (by decide +kernel)
abbrev s_check_number : Stmt := topS 9
abbrev n_check_number : List Str := ["number", "lowest", "highest"]
abbrev p_check_number : List Str := ["number", "lowest", "highest"]
theorem sc_check_number : FnScope n_check_number p_check_number (defScope s_check_number) := ⟨rfl, rfl, rfl, by decide +kernel, rfl, by decide +kernel, by decide +kernel⟩
abbrev s_join_cells : Stmt := topS 13
abbrev n_join_cells : List Str := ["cells", "cell", "_", "width"]
abbrev p_join_cells : List Str := ["cells"]
theorem sc_join_cells : FnScope n_join_cells p_join_cells (defScope s_join_cells) := ⟨rfl, rfl, rfl, by decide +kernel, rfl, by decide +kernel, by decide +kernel⟩
abbrev s_split_cells : Stmt := topS 14
abbrev n_split_cells : List Str := ["line", "cells", "start", "_", "width"]
abbrev p_split_cells : List Str := ["line"]
theorem sc_split_cells : FnScope n_split_cells p_split_cells (defScope s_split_cells) := ⟨rfl, rfl, rfl, by decide +kernel, rfl, by decide +kernel, by decide +kernel⟩
abbrev s_first_line : Stmt := topS 15
abbrev n_first_line : List Str := ["word", "_"]
abbrev p_first_line : List Str := []
theorem sc_first_line : FnScope n_first_line p_first_line (defScope s_first_line) := ⟨rfl, rfl, rfl, by decide +kernel, rfl, by decide +kernel, by decide +kernel⟩
abbrev s_print_numbers : Stmt := topS 16
abbrev n_print_numbers : List Str := ["numbers", "number"]
abbrev p_print_numbers : List Str := ["numbers"]
theorem sc_print_numbers : FnScope n_print_numbers p_print_numbers (defScope s_print_numbers) := ⟨rfl, rfl, rfl, by decide +kernel, rfl, by decide +kernel, by decide +kernel⟩
abbrev s_parse_line : Stmt := topS 17
abbrev n_parse_line : List Str := ["line", "row", "numbers", "cell", "digits"]
abbrev p_parse_line : List Str := ["line", "row"]
theorem sc_parse_line : FnScope n_parse_line p_parse_line (defScope s_parse_line) := ⟨rfl, rfl, rfl, by decide +kernel, rfl, by decide +kernel, by decide +kernel⟩
abbrev s_check_days : Stmt := topS 18
abbrev n_check_days : List Str := ["first", "last"]
abbrev p_check_days : List Str := ["first", "last"]
theorem sc_check_days : FnScope n_check_days p_check_days (defScope s_check_days) := ⟨rfl, rfl, rfl, by decide +kernel, rfl, by decide +kernel, by decide +kernel⟩
abbrev s_report : Stmt := topS 19
abbrev n_report : List Str := ["bakery", "first", "last", "lines", "day", "baked", "sold", "missed", "thrown"]
abbrev p_report : List Str := ["bakery", "first", "last"]
theorem sc_report : FnScope n_report p_report (defScope s_report) := ⟨rfl, rfl, rfl, by decide +kernel, rfl, by decide +kernel, by decide +kernel⟩
abbrev s_parse_report : Stmt := topS 20
abbrev n_parse_report : List Str := ["text", "lines", "row", "line"]
abbrev p_parse_report : List Str := ["text"]
theorem sc_parse_report : FnScope n_parse_report p_parse_report (defScope s_parse_report) := ⟨rfl, rfl, rfl, by decide +kernel, rfl, by decide +kernel, by decide +kernel⟩
abbrev s_count_keepable : Stmt := topS 22
abbrev n_count_keepable : List Str := ["bakes", "life", "length", "at", "age"]
abbrev p_count_keepable : List Str := ["bakes", "life"]
theorem sc_count_keepable : FnScope n_count_keepable p_count_keepable (defScope s_count_keepable) := ⟨rfl, rfl, rfl, by decide +kernel, rfl, by decide +kernel, by decide +kernel⟩
abbrev s_Course___init__ : Stmt := inClass (topS 23) 0
abbrev n_Course___init__ : List Str := ["self", "bakes", "demands", "life"]
abbrev p_Course___init__ : List Str := ["self", "bakes", "demands", "life"]
theorem sc_Course___init__ : FnScope n_Course___init__ p_Course___init__ (defScope s_Course___init__) := ⟨rfl, rfl, rfl, by decide +kernel, rfl, by decide +kernel, by decide +kernel⟩
abbrev s_Course_sales_on : Stmt := inClass (topS 23) 2
abbrev n_Course_sales_on : List Str := ["self", "day", "rounds", "at", "stocks", "loaves", "sold"]
abbrev p_Course_sales_on : List Str := ["self", "day"]
theorem sc_Course_sales_on : FnScope n_Course_sales_on p_Course_sales_on (defScope s_Course_sales_on) := ⟨rfl, rfl, rfl, by decide +kernel, rfl, by decide +kernel, by decide +kernel⟩
abbrev s_Course_find_settled : Stmt := inClass (topS 23) 5
abbrev n_Course_find_settled : List Str := ["self", "rounds", "stocks", "later", "at"]
abbrev p_Course_find_settled : List Str := ["self"]
theorem sc_Course_find_settled : FnScope n_Course_find_settled p_Course_find_settled (defScope s_Course_find_settled) := ⟨rfl, rfl, rfl, by decide +kernel, rfl, by decide +kernel, by decide +kernel⟩
abbrev s_Course_sum_settled_round : Stmt := inClass (topS 23) 6
abbrev n_Course_sum_settled_round : List Str := ["self", "missed", "sold"]
abbrev p_Course_sum_settled_round : List Str := ["self"]
theorem sc_Course_sum_settled_round : FnScope n_Course_sum_settled_round p_Course_sum_settled_round (defScope s_Course_sum_settled_round) := ⟨rfl, rfl, rfl, by decide +kernel, rfl, by decide +kernel, by decide +kernel⟩
abbrev s_Course__play_round : Stmt := inClass (topS 23) 7
abbrev n_Course__play_round : List Str := ["self", "stock", "stocks", "bake", "demand", "most", "left"]
abbrev p_Course__play_round : List Str := ["self", "stock"]
theorem sc_Course__play_round : FnScope n_Course__play_round p_Course__play_round (defScope s_Course__play_round) := ⟨rfl, rfl, rfl, by decide +kernel, rfl, by decide +kernel, by decide +kernel⟩
abbrev s_Course__stocks_in : Stmt := inClass (topS 23) 8
abbrev n_Course__stocks_in : List Str := ["self", "rounds", "start"]
abbrev p_Course__stocks_in : List Str := ["self", "rounds"]
theorem sc_Course__stocks_in : FnScope n_Course__stocks_in p_Course__stocks_in (defScope s_Course__stocks_in) := ⟨rfl, rfl, rfl, by decide +kernel, rfl, by decide +kernel, by decide +kernel⟩
abbrev s_Course__misses_in : Stmt := inClass (topS 23) 9
abbrev n_Course__misses_in : List Str := ["self", "rounds", "stocks", "at", "demand"]
abbrev p_Course__misses_in : List Str := ["self", "rounds"]
theorem sc_Course__misses_in : FnScope n_Course__misses_in p_Course__misses_in (defScope s_Course__misses_in) := ⟨rfl, rfl, rfl, by decide +kernel, rfl, by decide +kernel, by decide +kernel⟩
abbrev s_Course__count_growing : Stmt := inClass (topS 23) 10
abbrev n_Course__count_growing : List Str := ["self"]
abbrev p_Course__count_growing : List Str := ["self"]
theorem sc_Course__count_growing : FnScope n_Course__count_growing p_Course__count_growing (defScope s_Course__count_growing) := ⟨rfl, rfl, rfl, by decide +kernel, rfl, by decide +kernel, by decide +kernel⟩
abbrev s_check_amounts : Stmt := topS 25
abbrev n_check_amounts : List Str := ["part", "amounts", "at", "amount"]
abbrev p_check_amounts : List Str := ["part", "amounts"]
theorem sc_check_amounts : FnScope n_check_amounts p_check_amounts (defScope s_check_amounts) := ⟨rfl, rfl, rfl, by decide +kernel, rfl, by decide +kernel, by decide +kernel⟩
abbrev s_check_life : Stmt := topS 26
abbrev n_check_life : List Str := ["life"]
abbrev p_check_life : List Str := ["life"]
theorem sc_check_life : FnScope n_check_life p_check_life (defScope s_check_life) := ⟨rfl, rfl, rfl, by decide +kernel, rfl, by decide +kernel, by decide +kernel⟩
abbrev s_check_bakery : Stmt := topS 27
abbrev n_check_bakery : List Str := ["bakes", "demands", "life"]
abbrev p_check_bakery : List Str := ["bakes", "demands", "life"]
theorem sc_check_bakery : FnScope n_check_bakery p_check_bakery (defScope s_check_bakery) := ⟨rfl, rfl, rfl, by decide +kernel, rfl, by decide +kernel, by decide +kernel⟩
abbrev s_Bakery___init__ : Stmt := inClass (topS 28) 2
abbrev n_Bakery___init__ : List Str := ["self", "bakes", "demands", "life"]
abbrev p_Bakery___init__ : List Str := ["self", "bakes", "demands", "life"]
theorem sc_Bakery___init__ : FnScope n_Bakery___init__ p_Bakery___init__ (defScope s_Bakery___init__) := ⟨rfl, rfl, rfl, by decide +kernel, rfl, by decide +kernel, by decide +kernel⟩
abbrev s_Bakery_bakes : Stmt := inClass (topS 28) 3
abbrev n_Bakery_bakes : List Str := ["self"]
abbrev p_Bakery_bakes : List Str := ["self"]
theorem sc_Bakery_bakes : FnScope n_Bakery_bakes p_Bakery_bakes (defScope s_Bakery_bakes) := ⟨rfl, rfl, rfl, by decide +kernel, rfl, by decide +kernel, by decide +kernel⟩
abbrev s_Bakery_sold : Stmt := inClass (topS 28) 11
abbrev n_Bakery_sold : List Str := ["self", "day"]
abbrev p_Bakery_sold : List Str := ["self", "day"]
theorem sc_Bakery_sold : FnScope n_Bakery_sold p_Bakery_sold (defScope s_Bakery_sold) := ⟨rfl, rfl, rfl, by decide +kernel, rfl, by decide +kernel, by decide +kernel⟩
abbrev s_Bakery_missed : Stmt := inClass (topS 28) 12
abbrev n_Bakery_missed : List Str := ["self", "day"]
abbrev p_Bakery_missed : List Str := ["self", "day"]
theorem sc_Bakery_missed : FnScope n_Bakery_missed p_Bakery_missed (defScope s_Bakery_missed) := ⟨rfl, rfl, rfl, by decide +kernel, rfl, by decide +kernel, by decide +kernel⟩
abbrev s_Bakery_thrown : Stmt := inClass (topS 28) 13
abbrev n_Bakery_thrown : List Str := ["self", "day"]
abbrev p_Bakery_thrown : List Str := ["self", "day"]
theorem sc_Bakery_thrown : FnScope n_Bakery_thrown p_Bakery_thrown (defScope s_Bakery_thrown) := ⟨rfl, rfl, rfl, by decide +kernel, rfl, by decide +kernel, by decide +kernel⟩
abbrev s__law_start : Stmt := topS 30
abbrev n__law_start : List Str := ["_law_script", "_law_mixed", "_law_cell"]
abbrev p__law_start : List Str := ["_law_script"]
theorem sc__law_start : FnScope n__law_start p__law_start (defScope s__law_start) := ⟨rfl, rfl, rfl, by decide +kernel, rfl, by decide +kernel, by decide +kernel⟩
abbrev s__law_drawn : Stmt := topS 31
abbrev n__law_drawn : List Str := ["_law_state", "_law_count", "_law_result", "_law_cell"]
abbrev p__law_drawn : List Str := ["_law_state", "_law_count"]
theorem sc__law_drawn : FnScope n__law_drawn p__law_drawn (defScope s__law_drawn) := ⟨rfl, rfl, rfl, by decide +kernel, rfl, by decide +kernel, by decide +kernel⟩
abbrev s__law_same : Stmt := topS 32
abbrev n__law_same : List Str := ["_law_result", "_law_expected", "_law_k"]
abbrev p__law_same : List Str := ["_law_result", "_law_expected"]
theorem sc__law_same : FnScope n__law_same p__law_same (defScope s__law_same) := ⟨rfl, rfl, rfl, by decide +kernel, rfl, by decide +kernel, by decide +kernel⟩
abbrev s__law_outcome : Stmt := topS 33
abbrev n__law_outcome : List Str := ["_law_work", "e"]
abbrev p__law_outcome : List Str := ["_law_work"]
theorem sc__law_outcome : FnScope n__law_outcome p__law_outcome (defScope s__law_outcome) := ⟨rfl, rfl, rfl, by decide +kernel, rfl, by decide +kernel, by decide +kernel⟩
abbrev s__law_amounts : Stmt := topS 34
abbrev n__law_amounts : List Str := ["_law_state", "_law_size", "_law_high", "_law_k"]
abbrev p__law_amounts : List Str := ["_law_state", "_law_size", "_law_high"]
theorem sc__law_amounts : FnScope n__law_amounts p__law_amounts (defScope s__law_amounts) := ⟨rfl, rfl, rfl, by decide +kernel, rfl, by decide +kernel, by decide +kernel⟩
abbrev s__law_grouped : Stmt := topS 35
abbrev n__law_grouped : List Str := ["_law_number_here", "_law_digits", "_law_groups"]
abbrev p__law_grouped : List Str := ["_law_number_here"]
theorem sc__law_grouped : FnScope n__law_grouped p__law_grouped (defScope s__law_grouped) := ⟨rfl, rfl, rfl, by decide +kernel, rfl, by decide +kernel, by decide +kernel⟩
abbrev s__law_line : Stmt := topS 36
abbrev n__law_line : List Str := ["_law_words", "_law_text", "_law_k"]
abbrev p__law_line : List Str := ["_law_words"]
theorem sc__law_line : FnScope n__law_line p__law_line (defScope s__law_line) := ⟨rfl, rfl, rfl, by decide +kernel, rfl, by decide +kernel, by decide +kernel⟩
abbrev s__law_number : Stmt := topS 37
abbrev n__law_number : List Str := ["_law_text", "_law_digits", "_law_one"]
abbrev p__law_number : List Str := ["_law_text"]
theorem sc__law_number : FnScope n__law_number p__law_number (defScope s__law_number) := ⟨rfl, rfl, rfl, by decide +kernel, rfl, by decide +kernel, by decide +kernel⟩
abbrev s__law_read : Stmt := topS 38
abbrev n__law_read : List Str := ["_law_text", "_law_lines", "_law_rows", "_law_row", "_law_line_here", "_law_numbers", "_law_begin", "_law_end", "_law_number_here"]
abbrev p__law_read : List Str := ["_law_text"]
theorem sc__law_read : FnScope n__law_read p__law_read (defScope s__law_read) := ⟨rfl, rfl, rfl, by decide +kernel, rfl, by decide +kernel, by decide +kernel⟩
abbrev s__law_changed : Stmt := topS 39
abbrev n__law_changed : List Str := ["_law_state", "_law_text", "_law_at", "_law_branch", "_law_figures", "_law_character", "_law_lines", "_law_row", "_law_extra", "_law_some", "_law_k"]
abbrev p__law_changed : List Str := ["_law_state", "_law_text"]
theorem sc__law_changed : FnScope n__law_changed p__law_changed (defScope s__law_changed) := ⟨rfl, rfl, rfl, by decide +kernel, rfl, by decide +kernel, by decide +kernel⟩
abbrev s_law : Stmt := topS 40
abbrev n_law : List Str := ["_law_script", "_law_state", "_law_turn", "_law_high", "_law_size", "_law_bakes", "_law_demands", "_law_first", "_law_last", "_law_lines", "_law_day", "_law_numbers", "_law_change", "_law_works", "_law_bakery", "_law_text", "_law_work", "_law_number_here"]
abbrev p_law : List Str := ["_law_script"]
theorem sc_law : FnScope n_law p_law (defScope s_law) := ⟨rfl, rfl, rfl, by decide +kernel, rfl, by decide +kernel, by decide +kernel⟩
structure Ad where
  c_Course : Addr
  c_Bakery : Addr
  mc_Course : Value
  mc_Bakery : Value
  pr_Bakery_bakes : Addr
  t_MOST_LOAVES : Tok
  t_LAST_DAY : Tok
  t_MOST_REPORT_DAYS : Tok
  a_COLUMNS : Addr
  f_InvalidReport___init__ : Addr
  d_InvalidReport___init__ : FuncData
  f_check_number : Addr
  d_check_number : FuncData
  f_join_cells : Addr
  d_join_cells : FuncData
  f_split_cells : Addr
  d_split_cells : FuncData
  f_first_line : Addr
  d_first_line : FuncData
  f_print_numbers : Addr
  d_print_numbers : FuncData
  f_parse_line : Addr
  d_parse_line : FuncData
  f_check_days : Addr
  d_check_days : FuncData
  f_report : Addr
  d_report : FuncData
  f_parse_report : Addr
  d_parse_report : FuncData
  f_count_keepable : Addr
  d_count_keepable : FuncData
  f_Course___init__ : Addr
  d_Course___init__ : FuncData
  f_Course_sales_on : Addr
  d_Course_sales_on : FuncData
  f_Course_find_settled : Addr
  d_Course_find_settled : FuncData
  f_Course_sum_settled_round : Addr
  d_Course_sum_settled_round : FuncData
  f_Course__play_round : Addr
  d_Course__play_round : FuncData
  f_Course__stocks_in : Addr
  d_Course__stocks_in : FuncData
  f_Course__misses_in : Addr
  d_Course__misses_in : FuncData
  f_Course__count_growing : Addr
  d_Course__count_growing : FuncData
  f_check_amounts : Addr
  d_check_amounts : FuncData
  f_check_life : Addr
  d_check_life : FuncData
  f_check_bakery : Addr
  d_check_bakery : FuncData
  f_Bakery___init__ : Addr
  d_Bakery___init__ : FuncData
  f_Bakery_bakes : Addr
  d_Bakery_bakes : FuncData
  f_Bakery_sold : Addr
  d_Bakery_sold : FuncData
  f_Bakery_missed : Addr
  d_Bakery_missed : FuncData
  f_Bakery_thrown : Addr
  d_Bakery_thrown : FuncData
  f__law_start : Addr
  d__law_start : FuncData
  f__law_drawn : Addr
  d__law_drawn : FuncData
  f__law_same : Addr
  d__law_same : FuncData
  f__law_outcome : Addr
  d__law_outcome : FuncData
  f__law_amounts : Addr
  d__law_amounts : FuncData
  f__law_grouped : Addr
  d__law_grouped : FuncData
  f__law_line : Addr
  d__law_line : FuncData
  f__law_number : Addr
  d__law_number : FuncData
  f__law_read : Addr
  d__law_read : FuncData
  f__law_changed : Addr
  d__law_changed : FuncData
  f_law : Addr
  d_law : FuncData
  k_law : Addr
  tb_law : Addr
  P : Program
  c_LoafError : Addr
  c_InvalidNumber : Addr
  c_InvalidReport : Addr
  k_InvalidReport___init__ : Addr
  cc_InvalidReport___init__ : Addr
structure Txt (K : PySem.W.Frag) (mg : Str → Option Value) (Z : Ad) : Prop where
  cl_Course : Cls K Z.c_Course
  g_Course : mg "Course" = some (.ref Z.c_Course)
  mk_Course : Mk K Z.c_Course Z.f_Course___init__
  na_Course__bakes : NoAttr K Z.c_Course "_bakes"
  na_Course__demands : NoAttr K Z.c_Course "_demands"
  na_Course__keepable : NoAttr K Z.c_Course "_keepable"
  na_Course__gain : NoAttr K Z.c_Course "_gain"
  na_Course__first_end : NoAttr K Z.c_Course "_first_end"
  na_Course__full_end : NoAttr K Z.c_Course "_full_end"
  na_Course__first_misses : NoAttr K Z.c_Course "_first_misses"
  na_Course__later_misses : NoAttr K Z.c_Course "_later_misses"
  cl_Bakery : Cls K Z.c_Bakery
  g_Bakery : mg "Bakery" = some (.ref Z.c_Bakery)
  mk_Bakery : Mk K Z.c_Bakery Z.f_Bakery___init__
  na_Bakery__bakes : NoAttr K Z.c_Bakery "_bakes"
  na_Bakery__demands : NoAttr K Z.c_Bakery "_demands"
  na_Bakery__life : NoAttr K Z.c_Bakery "_life"
  na_Bakery_course : NoAttr K Z.c_Bakery "course"
  na_Bakery__settled_day : NoAttr K Z.c_Bakery "_settled_day"
  na_Bakery__long_run : NoAttr K Z.c_Bakery "_long_run"
  cv_Bakery_MAX_DAYS : ClX.CRead K Z.c_Bakery Z.mc_Bakery ∧ ∃ u, ClX.CVal K Z.c_Bakery Z.mc_Bakery "MAX_DAYS" (.int 24) u
  cv_Bakery_MAX_LIFE : ClX.CRead K Z.c_Bakery Z.mc_Bakery ∧ ∃ u, ClX.CVal K Z.c_Bakery Z.mc_Bakery "MAX_LIFE" (.int 30) u
  g_MOST_LOAVES : mg "MOST_LOAVES" = some (.int 1000000000 Z.t_MOST_LOAVES)
  g_LAST_DAY : mg "LAST_DAY" = some (.int 1000000000000000000 Z.t_LAST_DAY)
  g_MOST_REPORT_DAYS : mg "MOST_REPORT_DAYS" = some (.int 500 Z.t_MOST_REPORT_DAYS)
  g_COLUMNS : mg "COLUMNS" = some (.ref Z.a_COLUMNS)
  co_COLUMNS : ColsOk K Z.a_COLUMNS
  b_bool : mg "bool" = none
  b_divmod : mg "divmod" = none
  b_enumerate : mg "enumerate" = none
  b_int : mg "int" = none
  b_isinstance : mg "isinstance" = none
  b_len : mg "len" = none
  b_list : mg "list" = none
  b_max : mg "max" = none
  b_min : mg "min" = none
  b_range : mg "range" = none
  b_str : mg "str" = none
  b_sum : mg "sum" = none
  b_super : mg "super" = none
  b_tuple : mg "tuple" = none
  b_zip : mg "zip" = none
  g_LoafError : mg "LoafError" = some (.ref Z.c_LoafError)
  g_InvalidNumber : mg "InvalidNumber" = some (.ref Z.c_InvalidNumber)
  g_InvalidReport : mg "InvalidReport" = some (.ref Z.c_InvalidReport)
  xp_InvalidNumber : PySem.W.excIn K Z.c_InvalidNumber [.type "ValueError", .type "Exception", .type "BaseException", .type "object"] "ValueError.__new__" = true
  xq_InvalidNumber : PySem.W.keepIn K (.ref Z.c_InvalidNumber) = true
  xb_InvalidNumber : PySem.W.subIn K (.ref Z.c_InvalidNumber) (.type "BaseException") = some true
  xy_InvalidNumber : PySem.W.typeIn K (.ref Z.c_InvalidNumber) = some (.type "type")
  xI_InvalidNumber : ExI K Z.c_InvalidNumber
  xm_InvalidNumber : PySem.W.exmOne K (.ref Z.c_InvalidNumber) (.ref Z.c_LoafError) = some true
  xv_InvalidNumber : PySem.W.kitOne K (.ref Z.c_InvalidNumber) (.type "ValueError") = some true
  xk_InvalidNumber_InvalidNumber : PySem.W.kitOne K (.ref Z.c_InvalidNumber) (.ref Z.c_InvalidNumber) = some true
  xk_InvalidNumber_InvalidReport : PySem.W.kitOne K (.ref Z.c_InvalidNumber) (.ref Z.c_InvalidReport) = some false
  ox_InvalidReport : OexC K Z.c_InvalidReport
  xi_InvalidReport : PySem.W.findIn K (.ref Z.c_InvalidReport) "__init__" = some (some (.ref Z.f_InvalidReport___init__))
  xt_InvalidReport : PySem.W.typeIn K (.ref Z.f_InvalidReport___init__) = some (.type "function")
  xs_InvalidReport : SupF Z.P K "InvalidReport.__init__" s_InvalidReport___init__ Z.f_InvalidReport___init__ Z.d_InvalidReport___init__ Z.k_InvalidReport___init__ Z.cc_InvalidReport___init__ Z.c_InvalidReport
  xI_InvalidReport : ExI K Z.c_InvalidReport
  xm_InvalidReport : PySem.W.exmOne K (.ref Z.c_InvalidReport) (.ref Z.c_LoafError) = some true
  xv_InvalidReport : PySem.W.kitOne K (.ref Z.c_InvalidReport) (.type "ValueError") = some true
  xk_InvalidReport_InvalidNumber : PySem.W.kitOne K (.ref Z.c_InvalidReport) (.ref Z.c_InvalidNumber) = some false
  xk_InvalidReport_InvalidReport : PySem.W.kitOne K (.ref Z.c_InvalidReport) (.ref Z.c_InvalidReport) = some true
  na_InvalidReport_row : PySem.W.findIn K (.ref Z.c_InvalidReport) "row" = some none
  b_InvalidReport___init__ : Binds K Z.d_InvalidReport___init__ p_InvalidReport___init__ []
  xn_InvalidNumber_InvalidNumber : PySem.W.exmOne K (.ref Z.c_InvalidNumber) (.ref Z.c_InvalidNumber) = some true
  xn_InvalidReport_InvalidNumber : PySem.W.exmOne K (.ref Z.c_InvalidReport) (.ref Z.c_InvalidNumber) = some false
  xn_InvalidReport_InvalidReport : PySem.W.exmOne K (.ref Z.c_InvalidReport) (.ref Z.c_InvalidReport) = some true
  F_check_number : Fun K "check_number" "check_number" s_check_number Z.f_check_number Z.d_check_number
  b_check_number : Binds K Z.d_check_number p_check_number []
  g_check_number : mg "check_number" = some (.ref Z.f_check_number)
  F_join_cells : Fun K "join_cells" "join_cells" s_join_cells Z.f_join_cells Z.d_join_cells
  b_join_cells : Binds K Z.d_join_cells p_join_cells []
  g_join_cells : mg "join_cells" = some (.ref Z.f_join_cells)
  F_split_cells : Fun K "split_cells" "split_cells" s_split_cells Z.f_split_cells Z.d_split_cells
  b_split_cells : Binds K Z.d_split_cells p_split_cells []
  g_split_cells : mg "split_cells" = some (.ref Z.f_split_cells)
  F_first_line : Fun K "first_line" "first_line" s_first_line Z.f_first_line Z.d_first_line
  b_first_line : Binds K Z.d_first_line p_first_line []
  g_first_line : mg "first_line" = some (.ref Z.f_first_line)
  F_print_numbers : Fun K "print_numbers" "print_numbers" s_print_numbers Z.f_print_numbers Z.d_print_numbers
  b_print_numbers : Binds K Z.d_print_numbers p_print_numbers []
  g_print_numbers : mg "print_numbers" = some (.ref Z.f_print_numbers)
  F_parse_line : Fun K "parse_line" "parse_line" s_parse_line Z.f_parse_line Z.d_parse_line
  b_parse_line : Binds K Z.d_parse_line p_parse_line []
  g_parse_line : mg "parse_line" = some (.ref Z.f_parse_line)
  F_check_days : Fun K "check_days" "check_days" s_check_days Z.f_check_days Z.d_check_days
  b_check_days : Binds K Z.d_check_days p_check_days []
  g_check_days : mg "check_days" = some (.ref Z.f_check_days)
  F_report : Fun K "report" "report" s_report Z.f_report Z.d_report
  b_report : Binds K Z.d_report p_report []
  g_report : mg "report" = some (.ref Z.f_report)
  F_parse_report : Fun K "parse_report" "parse_report" s_parse_report Z.f_parse_report Z.d_parse_report
  b_parse_report : Binds K Z.d_parse_report p_parse_report []
  g_parse_report : mg "parse_report" = some (.ref Z.f_parse_report)
  F_count_keepable : Fun K "count_keepable" "count_keepable" s_count_keepable Z.f_count_keepable Z.d_count_keepable
  b_count_keepable : Binds K Z.d_count_keepable p_count_keepable []
  g_count_keepable : mg "count_keepable" = some (.ref Z.f_count_keepable)
  F_Course___init__ : Fun K "__init__" "Course.__init__" s_Course___init__ Z.f_Course___init__ Z.d_Course___init__
  b_Course___init__ : Binds K Z.d_Course___init__ p_Course___init__ []
  F_Course_sales_on : Fun K "sales_on" "Course.sales_on" s_Course_sales_on Z.f_Course_sales_on Z.d_Course_sales_on
  b_Course_sales_on : Binds K Z.d_Course_sales_on p_Course_sales_on []
  m_Course_sales_on : Meth K Z.c_Course "sales_on" Z.f_Course_sales_on
  F_Course_find_settled : Fun K "find_settled" "Course.find_settled" s_Course_find_settled Z.f_Course_find_settled Z.d_Course_find_settled
  b_Course_find_settled : Binds K Z.d_Course_find_settled p_Course_find_settled []
  m_Course_find_settled : Meth K Z.c_Course "find_settled" Z.f_Course_find_settled
  F_Course_sum_settled_round : Fun K "sum_settled_round" "Course.sum_settled_round" s_Course_sum_settled_round Z.f_Course_sum_settled_round Z.d_Course_sum_settled_round
  b_Course_sum_settled_round : Binds K Z.d_Course_sum_settled_round p_Course_sum_settled_round []
  m_Course_sum_settled_round : Meth K Z.c_Course "sum_settled_round" Z.f_Course_sum_settled_round
  F_Course__play_round : Fun K "_play_round" "Course._play_round" s_Course__play_round Z.f_Course__play_round Z.d_Course__play_round
  b_Course__play_round : Binds K Z.d_Course__play_round p_Course__play_round []
  m_Course__play_round : Meth K Z.c_Course "_play_round" Z.f_Course__play_round
  F_Course__stocks_in : Fun K "_stocks_in" "Course._stocks_in" s_Course__stocks_in Z.f_Course__stocks_in Z.d_Course__stocks_in
  b_Course__stocks_in : Binds K Z.d_Course__stocks_in p_Course__stocks_in []
  m_Course__stocks_in : Meth K Z.c_Course "_stocks_in" Z.f_Course__stocks_in
  F_Course__misses_in : Fun K "_misses_in" "Course._misses_in" s_Course__misses_in Z.f_Course__misses_in Z.d_Course__misses_in
  b_Course__misses_in : Binds K Z.d_Course__misses_in p_Course__misses_in []
  m_Course__misses_in : Meth K Z.c_Course "_misses_in" Z.f_Course__misses_in
  F_Course__count_growing : Fun K "_count_growing" "Course._count_growing" s_Course__count_growing Z.f_Course__count_growing Z.d_Course__count_growing
  b_Course__count_growing : Binds K Z.d_Course__count_growing p_Course__count_growing []
  m_Course__count_growing : Meth K Z.c_Course "_count_growing" Z.f_Course__count_growing
  F_check_amounts : Fun K "check_amounts" "check_amounts" s_check_amounts Z.f_check_amounts Z.d_check_amounts
  b_check_amounts : Binds K Z.d_check_amounts p_check_amounts []
  g_check_amounts : mg "check_amounts" = some (.ref Z.f_check_amounts)
  F_check_life : Fun K "check_life" "check_life" s_check_life Z.f_check_life Z.d_check_life
  b_check_life : Binds K Z.d_check_life p_check_life []
  g_check_life : mg "check_life" = some (.ref Z.f_check_life)
  F_check_bakery : Fun K "check_bakery" "check_bakery" s_check_bakery Z.f_check_bakery Z.d_check_bakery
  b_check_bakery : Binds K Z.d_check_bakery p_check_bakery []
  g_check_bakery : mg "check_bakery" = some (.ref Z.f_check_bakery)
  F_Bakery___init__ : Fun K "__init__" "Bakery.__init__" s_Bakery___init__ Z.f_Bakery___init__ Z.d_Bakery___init__
  b_Bakery___init__ : Binds K Z.d_Bakery___init__ p_Bakery___init__ []
  F_Bakery_bakes : Fun K "bakes" "Bakery.bakes" s_Bakery_bakes Z.f_Bakery_bakes Z.d_Bakery_bakes
  b_Bakery_bakes : Binds K Z.d_Bakery_bakes p_Bakery_bakes []
  pp_Bakery_bakes : PropOf K Z.c_Bakery "bakes" Z.pr_Bakery_bakes Z.f_Bakery_bakes
  F_Bakery_sold : Fun K "sold" "Bakery.sold" s_Bakery_sold Z.f_Bakery_sold Z.d_Bakery_sold
  b_Bakery_sold : Binds K Z.d_Bakery_sold p_Bakery_sold []
  m_Bakery_sold : Meth K Z.c_Bakery "sold" Z.f_Bakery_sold
  F_Bakery_missed : Fun K "missed" "Bakery.missed" s_Bakery_missed Z.f_Bakery_missed Z.d_Bakery_missed
  b_Bakery_missed : Binds K Z.d_Bakery_missed p_Bakery_missed []
  m_Bakery_missed : Meth K Z.c_Bakery "missed" Z.f_Bakery_missed
  F_Bakery_thrown : Fun K "thrown" "Bakery.thrown" s_Bakery_thrown Z.f_Bakery_thrown Z.d_Bakery_thrown
  b_Bakery_thrown : Binds K Z.d_Bakery_thrown p_Bakery_thrown []
  m_Bakery_thrown : Meth K Z.c_Bakery "thrown" Z.f_Bakery_thrown
  F__law_start : Fun K "_law_start" "_law_start" s__law_start Z.f__law_start Z.d__law_start
  b__law_start : Binds K Z.d__law_start p__law_start []
  g__law_start : mg "_law_start" = some (.ref Z.f__law_start)
  F__law_drawn : Fun K "_law_drawn" "_law_drawn" s__law_drawn Z.f__law_drawn Z.d__law_drawn
  b__law_drawn : Binds K Z.d__law_drawn p__law_drawn []
  g__law_drawn : mg "_law_drawn" = some (.ref Z.f__law_drawn)
  F__law_same : Fun K "_law_same" "_law_same" s__law_same Z.f__law_same Z.d__law_same
  b__law_same : Binds K Z.d__law_same p__law_same []
  g__law_same : mg "_law_same" = some (.ref Z.f__law_same)
  F__law_outcome : Fun K "_law_outcome" "_law_outcome" s__law_outcome Z.f__law_outcome Z.d__law_outcome
  b__law_outcome : Binds K Z.d__law_outcome p__law_outcome []
  g__law_outcome : mg "_law_outcome" = some (.ref Z.f__law_outcome)
  F__law_amounts : Fun K "_law_amounts" "_law_amounts" s__law_amounts Z.f__law_amounts Z.d__law_amounts
  b__law_amounts : Binds K Z.d__law_amounts p__law_amounts []
  g__law_amounts : mg "_law_amounts" = some (.ref Z.f__law_amounts)
  F__law_grouped : Fun K "_law_grouped" "_law_grouped" s__law_grouped Z.f__law_grouped Z.d__law_grouped
  b__law_grouped : Binds K Z.d__law_grouped p__law_grouped []
  g__law_grouped : mg "_law_grouped" = some (.ref Z.f__law_grouped)
  F__law_line : Fun K "_law_line" "_law_line" s__law_line Z.f__law_line Z.d__law_line
  b__law_line : Binds K Z.d__law_line p__law_line []
  g__law_line : mg "_law_line" = some (.ref Z.f__law_line)
  F__law_number : Fun K "_law_number" "_law_number" s__law_number Z.f__law_number Z.d__law_number
  b__law_number : Binds K Z.d__law_number p__law_number []
  g__law_number : mg "_law_number" = some (.ref Z.f__law_number)
  F__law_read : Fun K "_law_read" "_law_read" s__law_read Z.f__law_read Z.d__law_read
  b__law_read : Binds K Z.d__law_read p__law_read []
  g__law_read : mg "_law_read" = some (.ref Z.f__law_read)
  F__law_changed : Fun K "_law_changed" "_law_changed" s__law_changed Z.f__law_changed Z.d__law_changed
  b__law_changed : Binds K Z.d__law_changed p__law_changed []
  g__law_changed : mg "_law_changed" = some (.ref Z.f__law_changed)
  F_law : Fun K "law" "law" s_law Z.f_law Z.d_law
  b_law : Binds K Z.d_law p_law []
  FC_law : FunC K "law" "law" s_law Z.f_law Z.d_law Z.k_law
  g_law : mg "law" = some (.ref Z.f_law)
end Sw
namespace Sw
open PySem PySem.Spec PyProof.Rows L2 Evl
/-! ### the mirror: what the package computes -/
def keepAt (bs : List Int) (life : Int) (i : Nat) : Int := ((List.range (life - 1).toNat).map fun (age : Nat) => bs.getD ((((i : Int) - (age : Int)) % (bs.length : Int)).toNat) 0).sum
def keepL (bs : List Int) (life : Int) : List Int := (List.range bs.length).map (keepAt bs life)
def sumRep (am : List Int) (days : Int) : Int := days / (am.length : Int) * am.sum + (am.take (days % (am.length : Int)).toNat).sum
def stp (s b d k : Int) : Int := min (max 0 (s + b - d)) k
def stkAt (bs ds ks : List Int) (s : Int) : Nat → Int
  | 0 => s
  | i + 1 => stp (stkAt bs ds ks s i) (bs.getD i 0) (ds.getD i 0) (ks.getD i 0)
def stkL (bs ds ks : List Int) (s : Int) : List Int := (List.range (bs.length + 1)).map (stkAt bs ds ks s)
/-! ### an instance's fields, for the walk -/
/-- the instance at a has the field, and its class lets it be read -/
structure FlK (K : PySem.W.Frag) (H : Hp) (a C : Addr) (f : Str) (v : V) : Prop where
  fl : Fl H a C f v
  cl : Cls K C
  na : NoAttr K C f
section
variable {K : PySem.W.Frag} {σ : L2.St} {H H' : Hp} {ta tb te tx : TE} {x y z v : V} {a C dx : Addr} {fs : List (Str × V)} {f m : Str}
theorem FlK.mono (e : Ex H H') (h : FlK K H a C f v) : FlK K H' a C f v := ⟨h.fl.mono e, h.cl, h.na⟩
theorem ev_fldK (h : Ev ta σ H (.ref a)) (hf : FlK K H a C f v) : Ev (tFld K ta f) σ H v := ev_fld h hf.fl hf.cl hf.na
theorem atI_mapI {ns : List Int} {i : Int} (h0 : 0 ≤ i) (h1 : i < ns.length) : atI (ns.map V.int) i = some (.int (ns.getD i.toNat 0)) := by
  rw [atI_at (d := V.int 0) h0 (by rw [List.length_map]; exact h1)]
  simp [List.getD]
theorem rng_map {n : Nat} (f : Nat → Int) : (List.range n).map (fun i => V.int (f i)) = ((List.range n).map f).map V.int := by
  rw [List.map_map]; rfl
end
theorem wide_ok {i j : Int} (h : j.natAbs < 2 ^ 60) : CMul i j := .inr (by omega)
local macro_rules | `(tactic| walk_at "ev") => `(tactic| first
  | exact ev_c
  | exact ev_var rfl
  | ((with_reducible show Ev (tCB rMax2 _) _ _ _); exact ev_maxi (by walk_at "ev") (by walk_at "ev"))
  | ((with_reducible show Ev (tCB rMn _) _ _ _); exact ev_min2 (by walk_at "ev") (by walk_at "ev"))
  | ((with_reducible show Ev (tUn _ _) _ _ _); exact ev_un (by walk_at "ev") ru_neg)
  | ((with_reducible show Ev (tFld _ _ _) _ _ _); exact ev_fldK (by walk_at "ev") (by assumption))
  | ((with_reducible show Ev (tOp (rI0 _) _ _) _ _ _); exact ev_op (by walk_at "ev") (by walk_at "ev") rv_I0)
  | ((with_reducible show Ev (tOp rEq _ _) _ _ _); exact ev_op (by walk_at "ev") (by walk_at "ev") (rv_eq rfl))
  | ((with_reducible show Ev (tOp rNe _ _) _ _ _); exact ev_op (by walk_at "ev") (by walk_at "ev") (rv_ne rfl)))

variable {P : Program} {w : World} {K : PySem.W.Frag} {mg : Str → Option Value} {base : Heap} {Z : Ad}
def sp_count_keepable (K : PySem.W.Frag) : Sp := fun vs H Q _ => ∃ (a : Addr) (bs : List Int) (life : Int), vs = [.ref a, .int life] ∧ SqT K H a (bs.map V.int) ∧ 0 < bs.length ∧ bs.length ≤ 24 ∧ 1 ≤ life ∧ life ≤ 30 ∧
  RetL ((keepL bs life).map V.int) H Q
theorem ok_count_keepable (T : Txt K mg Z) : FnOk P w K mg base CX0 1 Z.f_count_keepable Z.d_count_keepable p_count_keepable (sp_count_keepable K) := by
  refine T.F_count_keepable.ok sc_count_keepable (fun vs H Q E h => ?_) (fun cdv Ar outer s H vs Q E hr h => ?_)
  · obtain ⟨a, bs, life, rfl, _⟩ := h
    rfl
  · obtain ⟨a, bs, life, rfl, hS, h0, h1, h2, h3, k⟩ := h
    refine ⟨_, (pss_cons (ps_set (i := 2) sc_count_keepable.nd rfl (Or.inr rfl) (pe_callB (r := rLenS K) (call_len_seq) (by rfl) T.b_len boot_len (pa_cons (pv 0) pa_nil)))
      (pss_one (ps_ret (pe_lc (own := [("at", 3)]) rfl sc_count_keepable.nd (pi_range1 (by rfl) T.b_range (pa_cons (pv 2) pa_nil)) (blkOk_by (own := [("at", 3)]) (N := n_count_keepable) (sc := defScope s_count_keepable) (scope := { kind := PySem.ScopeKind.function, names := [ (PySem.Str.ofString ".0", PySem.NameKind.local), (PySem.Str.ofString "at", PySem.NameKind.cell), (PySem.Str.ofString "sum", PySem.NameKind.globalImplicit), (PySem.Str.ofString "range", PySem.NameKind.globalImplicit), (PySem.Str.ofString "bakes", PySem.NameKind.free), (PySem.Str.ofString "length", PySem.NameKind.free), (PySem.Str.ofString "life", PySem.NameKind.free)], isGenerator := false, isCoroutine := false, more := [] : PySem.Scope }) (by decide +kernel)) (fun _ _ _ _ _ => (pg_name (i := 3) sc_count_keepable.nd rfl (Or.inr rfl))) (fun _ _ _ _ _ => pts_nil) (fun _ _ _ _ _ => (pe_callB (r := rSum K) (cr_sum rfl) (by rfl) T.b_sum boot_sum (pa_cons (pe_lc (own := [("age", 4)]) rfl sc_count_keepable.nd (pi_range1 (by rfl) T.b_range (pa_cons (pe_op op_sub (pv 1) pe_int) pa_nil)) (blkOk_by (own := [("age", 4)]) (N := n_count_keepable) (sc := { kind := PySem.ScopeKind.function, names := [ (PySem.Str.ofString ".0", PySem.NameKind.local), (PySem.Str.ofString "at", PySem.NameKind.cell), (PySem.Str.ofString "sum", PySem.NameKind.globalImplicit), (PySem.Str.ofString "range", PySem.NameKind.globalImplicit), (PySem.Str.ofString "bakes", PySem.NameKind.cell), (PySem.Str.ofString "length", PySem.NameKind.cell), (PySem.Str.ofString "life", PySem.NameKind.cell)], isGenerator := false, isCoroutine := false, more := [] : PySem.Scope }) (scope := { kind := PySem.ScopeKind.function, names := [ (PySem.Str.ofString ".0", PySem.NameKind.local), (PySem.Str.ofString "age", PySem.NameKind.local), (PySem.Str.ofString "at", PySem.NameKind.free), (PySem.Str.ofString "bakes", PySem.NameKind.free), (PySem.Str.ofString "length", PySem.NameKind.free)], isGenerator := false, isCoroutine := false, more := [] : PySem.Scope }) (by decide +kernel)) (fun _ _ _ _ _ => (pg_name (i := 4) sc_count_keepable.nd rfl (Or.inl rfl))) (fun _ _ _ _ _ => pts_nil) (fun _ _ _ _ _ => (pe_ix (r := rIxT K) ix_tup (pv 0) (pe_op op_mod (pe_op op_sub (pv 3) (pv 4)) (pv 2)) (fun _ _ => rfl)))) pa_nil))))))), ?_⟩
    refine q_asg (ev_lenT (ev_var rfl) hS) fun H1 e1 => ?_
    have hS1 := ex_t e1 hS
    have hl : ((bs.map V.int).length : Int) = (bs.length : Int) := by rw [List.length_map]
    rw [hl]
    refine s_retL (xs := (keepL bs life).map V.int) ?_ fun p H2 hp e2 h2 => k p H2 (fresh_back e1 hp) (e1.trans e2) h2
    unfold keepL
    rw [← rng_map]
    refine el_lcR (n := (bs.length : Int)) (fun i => V.int (keepAt bs life i)) (ea_cons (ev_var rfl) ea_nil) ⟨by omega, by omega⟩ (fun _ => rfl) fun i H3 e3 hi => ?_
    unfold keepAt
    refine ev_sumN ?_
    rw [← rng_map]
    refine el_lcR (n := life - 1) _ (ea_cons (by walk_at "ev") ea_nil) ⟨by omega, by omega⟩ (fun _ => rfl) fun j H4 e4 hj => ?_
    have hm0 : 0 ≤ ((i : Int) - (j : Int)) % (bs.length : Int) := Int.emod_nonneg _ (by omega)
    have hm1 : ((i : Int) - (j : Int)) % (bs.length : Int) < (bs.length : Int) := Int.emod_lt_of_pos _ (by omega)
    exact ev_ixT (ev_var rfl) (ex_t (e3.trans e4) hS1) (ev_op (by walk_at "ev") (by walk_at "ev") (rv_I (by show (0 : Int) < _; omega))) (atI_mapI hm0 hm1)
def sp_sum_repeated (K : PySem.W.Frag) : Sp := fun vs H Q _ => ∃ (a : Addr) (am : List Int) (days : Int), vs = [.ref a, .int days] ∧ (SqT K H a (am.map V.int) ∨ SqL K H a (am.map V.int)) ∧ 0 < am.length ∧ am.length ≤ 24 ∧ am.sum.natAbs ≤ 2 ^ 40 ∧
  RetV (.int (sumRep am days)) H Q
end Sw
namespace Sw
open PySem PySem.Spec PyProof.Rows L2 Evl
local macro_rules | `(tactic| walk_at "ev") => `(tactic| first
  | exact ev_c
  | exact ev_var rfl
  | ((with_reducible show Ev (tCB rMax2 _) _ _ _); exact ev_maxi (by walk_at "ev") (by walk_at "ev"))
  | ((with_reducible show Ev (tCB rMn _) _ _ _); exact ev_min2 (by walk_at "ev") (by walk_at "ev"))
  | ((with_reducible show Ev (tUn _ _) _ _ _); exact ev_un (by walk_at "ev") ru_neg)
  | ((with_reducible show Ev (tFld _ _ _) _ _ _); exact ev_fldK (by walk_at "ev") (by assumption))
  | ((with_reducible show Ev (tOp (rI0 _) _ _) _ _ _); exact ev_op (by walk_at "ev") (by walk_at "ev") rv_I0)
  | ((with_reducible show Ev (tOp rEq _ _) _ _ _); exact ev_op (by walk_at "ev") (by walk_at "ev") (rv_eq rfl))
  | ((with_reducible show Ev (tOp rNe _ _) _ _ _); exact ev_op (by walk_at "ev") (by walk_at "ev") (rv_ne rfl)))

/-! ### the course: what its object holds -/
def start1 (gain first full : Int) (r : Int) : Int := if r = 0 then 0 else min full (first + (r - 1) * gain)
def missL (ds bs st : List Int) : List Int := (List.range ds.length).map fun i => max 0 (ds.getD i 0 - st.getD i 0 - bs.getD i 0)
def growing (gain first full : Int) : Int := if gain = 0 then 0 else -((first - full) / gain)
/-- bounds of what a bakery is made of -/
structure Good (bs ds : List Int) : Prop where
  n0 : 0 < bs.length
  n1 : bs.length ≤ 24
  ld : ds.length = bs.length
  b0 : ∀ x ∈ bs, 0 ≤ x ∧ x ≤ 1000000000
  d0 : ∀ x ∈ ds, 0 ≤ x ∧ x ≤ 1000000000
structure PR (K : PySem.W.Frag) (Z : Ad) (H : Hp) (c : Addr) (bs ds ks : List Int) (tb td tk : Addr) : Prop where
  fb : FlK K H c Z.c_Course "_bakes" (.ref tb)
  hb : SqT K H tb (bs.map V.int)
  fd : FlK K H c Z.c_Course "_demands" (.ref td)
  hd : SqT K H td (ds.map V.int)
  fk : FlK K H c Z.c_Course "_keepable" (.ref tk)
  hk : SqL K H tk (ks.map V.int)
  nf : NoF H c Z.c_Course "_play_round"
  gd : Good bs ds
  kl : ks.length = bs.length
structure SR (K : PySem.W.Frag) (Z : Ad) (H : Hp) (c : Addr) (bs ds ks : List Int) (tb td tk : Addr) (gain first full : Int) : Prop where
  pr : PR K Z H c bs ds ks tb td tk
  fg : FlK K H c Z.c_Course "_gain" (.int gain)
  ff : FlK K H c Z.c_Course "_first_end" (.int first)
  fu : FlK K H c Z.c_Course "_full_end" (.int full)
  nf : NoF H c Z.c_Course "_stocks_in"
  gb : gain.natAbs < 2 ^ 60
theorem PR.mono {K : PySem.W.Frag} {Z : Ad} {H H' : Hp} {c : Addr} {bs ds ks : List Int} {tb td tk : Addr} (e : Ex H H') (h : PR K Z H c bs ds ks tb td tk) : PR K Z H' c bs ds ks tb td tk :=
  ⟨h.fb.mono e, ex_t e h.hb, h.fd.mono e, ex_t e h.hd, h.fk.mono e, ex_l e h.hk, h.nf.mono e, h.gd, h.kl⟩
theorem SR.mono {K : PySem.W.Frag} {Z : Ad} {H H' : Hp} {c : Addr} {bs ds ks : List Int} {tb td tk : Addr} {gain first full : Int} (e : Ex H H') (h : SR K Z H c bs ds ks tb td tk gain first full) : SR K Z H' c bs ds ks tb td tk gain first full :=
  ⟨h.pr.mono e, h.fg.mono e, h.ff.mono e, h.fu.mono e, h.nf.mono e, h.gb⟩
theorem stkL_get {bs ds ks : List Int} {s : Int} {i : Nat} (h : i ≤ bs.length) : (stkL bs ds ks s).getD i 0 = stkAt bs ds ks s i := by
  unfold stkL
  simp [List.getD, List.getElem?_map, List.getElem?_range (show i < bs.length + 1 by omega)]
theorem stkL_len {bs ds ks : List Int} {s : Int} : (stkL bs ds ks s).length = bs.length + 1 := by simp [stkL]
theorem atI_last {α : Type} {xs : List α} {x : α} : atI (xs ++ [x]) (-1) = some x := by
  have e : ixN (xs ++ [x]).length (-1) = some xs.length := by
    unfold ixN
    rw [List.length_append, List.length_singleton]
    rw [if_neg (by omega), if_pos (by omega)]
    congr 1
    omega
  unfold atI
  rw [e]
  simp
theorem at_map {ns : List Int} {i : Nat} {x : V} (h : (ns.map V.int)[i]? = some x) : x = .int (ns.getD i 0) ∧ i < ns.length := by
  rw [List.getElem?_map] at h
  cases e : ns[i]? with
  | none => rw [e] at h; cases h
  | some z =>
    rw [e] at h
    have hi := (List.getElem?_eq_some_iff.mp e).1
    refine ⟨?_, hi⟩
    simp [List.getD, e] at h ⊢
    exact h.symm
variable {P : Program} {w : World} {K : PySem.W.Frag} {mg : Str → Option Value} {base : Heap} {Z : Ad}
/-! ### _play_round -/
def sp_play (K : PySem.W.Frag) (Z : Ad) : Sp := fun vs H Q _ => ∃ (c : Addr) (bs ds ks : List Int) (tb td tk : Addr) (s : Int), vs = [.ref c, .int s] ∧ PR K Z H c bs ds ks tb td tk ∧ RetL ((stkL bs ds ks s).map V.int) H Q
theorem ok_Course__play_round (T : Txt K mg Z) : FnOk P w K mg base CX0 1 Z.f_Course__play_round Z.d_Course__play_round p_Course__play_round (sp_play K Z) := by
  refine T.F_Course__play_round.ok sc_Course__play_round (fun vs H Q E h => ?_) (fun cdv Ar outer s H vs Q E hr h => ?_)
  · obtain ⟨c, bs, ds, ks, tb, td, tk, s, rfl, _⟩ := h
    rfl
  · obtain ⟨c, bs, ds, ks, tb, td, tk, s, rfl, hP, k⟩ := h
    have fb := hP.fb
    have fd := hP.fd
    have fk := hP.fk
    have hn := hP.gd.n1
    refine ⟨_, (pss_cons (ps_set (i := 2) sc_Course__play_round.nd rfl (Or.inl rfl) (pe_lst (pa_cons (pv 1) pa_nil)))
      (pss_cons (ps_for PassesOwn.never rfl (pi_zip3 (by rfl) T.b_zip (pa_cons (pe_fldK K rfl (pv 0) rfl) (pa_cons (pe_fldK K rfl (pv 0) rfl) (pa_cons (pe_fldK K rfl (pv 0) rfl) pa_nil)))) (by exact (pg_tupK K (n := 3) rfl rfl (pgs_cons (pg_name (i := 3) sc_Course__play_round.nd rfl (Or.inl rfl)) (pgs_cons (pg_name (i := 4) sc_Course__play_round.nd rfl (Or.inl rfl)) (pgs_cons (pg_name (i := 5) sc_Course__play_round.nd rfl (Or.inl rfl)) pgs_nil))))) (pss_cons (ps_set (i := 6) sc_Course__play_round.nd rfl (Or.inl rfl) (pe_callB (r := rMax2) (call_max2 rfl) (by rfl) T.b_max boot_max (pa_cons pe_int (pa_cons (pe_op op_sub (pe_op op_add (pe_ix (r := rIxL K) ix_list (pv 2) (pe_un un_neg pe_int) (fun _ _ => rfl)) (pv 3)) (pv 4)) pa_nil))))
      (pss_one (ps_expr (pe_bm PySem.F.plainAttrs_list PySem.F.slot_list_append PySem.F.type_list_append mt_append (pv 2) (pa_cons (pe_callB (r := rMn) (call_min2 rfl) (by rfl) T.b_min boot_min (pa_cons (pv 6) (pa_cons (pv 5) pa_nil))) pa_nil))))))
      (pss_one (ps_ret (pv 2))))), ?_⟩
    refine q_asgL (xs := [.int s]) (el_lst (ea_cons (ev_var rfl) ea_nil) (by show 1 ≤ 100000; decide)) fun p H1 hp e1 h1 => ?_
    refine q_forZ3 (n := bs.length) (G := H) (ea_cons (Ev.mono e1 (by walk_at "ev")) (ea_cons (Ev.mono e1 (by walk_at "ev")) (ea_cons (Ev.mono e1 (by walk_at "ev")) ea_nil))) e1 hP.hb hP.hd hP.hk (by simp) (by simp [hP.gd.ld]) (by simp [hP.kl])
      (fun i σ' H' => (∃ a b c' d, σ' = [some (.ref c), some (.int s), some (.ref p), a, b, c', d]) ∧ Ex H H' ∧ H' p = some (.lst (((List.range (i + 1)).map (stkAt bs ds ks s)).map V.int))) ?_ ?_ ?_ ?_
    · intro H2 e2
      exact ⟨⟨_, _, _, _, rfl⟩, e1.trans e2, e2 p _ h1⟩
    · intro i σ' H' _ p
      exact p.2.1
    · rintro i x y z σ' H' hx hy hz ⟨⟨_, _, _, _, rfl⟩, e2, h2⟩ H3 e3
      obtain ⟨rfl, hi⟩ := at_map hx
      obtain ⟨rfl, _⟩ := at_map hy
      obtain ⟨rfl, _⟩ := at_map hz
      have h3 := e3 p _ h2
      have hlast : ((List.range (i + 1)).map (stkAt bs ds ks s)).map V.int = ((List.range i).map (stkAt bs ds ks s)).map V.int ++ [V.int (stkAt bs ds ks s i)] := by
        rw [List.range_succ, List.map_append, List.map_append]; rfl
      refine q_asg (ev_maxi ev_c (ev_op (ev_op (ev_ixL (v := .int (stkAt bs ds ks s i)) (ev_var rfl) (sq_of h3) (by walk_at "ev") (by rw [hlast]; exact atI_last)) (ev_var rfl) rv_I0) (ev_var rfl) rv_I0)) fun H4 e4 => ?_
      refine s_app (e4 p _ h3) (ev_var rfl) (by walk_at "ev") (by simp; omega) fun H5 e5 => ?_
      refine ⟨⟨_, _, _, _, rfl⟩, Ex.mut (((e2.trans e3).trans e4).trans e5) hp, ?_⟩
      rw [upd_same, List.range_succ (n := i + 1), List.map_append, List.map_append]
      rfl
    · rintro σ' H' ⟨⟨_, _, _, _, rfl⟩, e2, h2⟩
      exact s_ret (ev_var rfl) fun H3 e3 => k p H3 hp (e2.trans e3) (e3 p _ h2)
end Sw
namespace Sw
open PySem PySem.Spec PyProof.Rows L2 Evl
local macro_rules | `(tactic| walk_at "ev") => `(tactic| first
  | exact ev_c
  | exact ev_var rfl
  | ((with_reducible show Ev (tCB rMax2 _) _ _ _); exact ev_maxi (by walk_at "ev") (by walk_at "ev"))
  | ((with_reducible show Ev (tCB rMn _) _ _ _); exact ev_min2 (by walk_at "ev") (by walk_at "ev"))
  | ((with_reducible show Ev (tUn _ _) _ _ _); exact ev_un (by walk_at "ev") ru_neg)
  | ((with_reducible show Ev (tFld _ _ _) _ _ _); exact ev_fldK (by walk_at "ev") (by assumption))
  | ((with_reducible show Ev (tOp (rI0 _) _ _) _ _ _); exact ev_op (by walk_at "ev") (by walk_at "ev") rv_I0)
  | ((with_reducible show Ev (tOp rEq _ _) _ _ _); exact ev_op (by walk_at "ev") (by walk_at "ev") (rv_eq rfl))
  | ((with_reducible show Ev (tOp rNe _ _) _ _ _); exact ev_op (by walk_at "ev") (by walk_at "ev") (rv_ne rfl)))

/-- a promise's uses -/
theorem spl_play {K : PySem.W.Frag} {Z : Ad} {H : Hp} {c : Addr} {bs ds ks : List Int} {tb td tk : Addr} {s : Int} (h : PR K Z H c bs ds ks tb td tk) : SpL (sp_play K Z) [.ref c, .int s] H ((stkL bs ds ks s).map V.int) :=
  fun _ e _ q _ => ⟨c, bs, ds, ks, tb, td, tk, s, rfl, h.mono e, q⟩
def sp_stocks (K : PySem.W.Frag) (Z : Ad) : Sp := fun vs H Q _ => ∃ (c : Addr) (bs ds ks : List Int) (tb td tk : Addr) (gain first full r : Int), vs = [.ref c, .int r] ∧ SR K Z H c bs ds ks tb td tk gain first full ∧ RetL ((stkL bs ds ks (start1 gain first full r)).map V.int) H Q
theorem spl_stocks {K : PySem.W.Frag} {Z : Ad} {H : Hp} {c : Addr} {bs ds ks : List Int} {tb td tk : Addr} {gain first full r : Int} (h : SR K Z H c bs ds ks tb td tk gain first full) :
    SpL (sp_stocks K Z) [.ref c, .int r] H ((stkL bs ds ks (start1 gain first full r)).map V.int) :=
  fun _ e _ q _ => ⟨c, bs, ds, ks, tb, td, tk, gain, first, full, r, rfl, h.mono e, q⟩
variable {P : Program} {w : World} {K : PySem.W.Frag} {mg : Str → Option Value} {base : Heap} {Z : Ad}
theorem ok_Course__stocks_in (T : Txt K mg Z) : FnOk P w K mg base CX0 2 Z.f_Course__stocks_in Z.d_Course__stocks_in p_Course__stocks_in (sp_stocks K Z) := by
  refine T.F_Course__stocks_in.ok sc_Course__stocks_in (fun vs H Q E h => ?_) (fun cdv Ar outer s H vs Q E hr h => ?_)
  · obtain ⟨c, bs, ds, ks, tb, td, tk, gain, first, full, r, rfl, _⟩ := h
    rfl
  · obtain ⟨c, bs, ds, ks, tb, td, tk, gain, first, full, r, rfl, hS, k⟩ := h
    have hP := hS.pr
    refine ⟨_, (pss_cons (ps_if (pt_cmpR op_eq (pv 1) pe_int (nomark _)) (pss_one (ps_ret (pe_meth (pv 0) T.cl_Course T.m_Course__play_round (ok_Course__play_round T) (hr.mono (by decide)) T.b_Course__play_round .nil pass0 (pa_cons pe_int pa_nil)))) pss_nil)
      (pss_cons (ps_set (i := 2) sc_Course__stocks_in.nd rfl (Or.inl rfl) (pe_callB (r := rMn) (call_min2 rfl) (by rfl) T.b_min boot_min (pa_cons (pe_fldK K rfl (pv 0) rfl) (pa_cons (pe_op op_add (pe_fldK K rfl (pv 0) rfl) (pe_op op_mul (pe_op op_sub (pv 1) pe_int) (pe_fldK K rfl (pv 0) rfl))) pa_nil))))
      (pss_one (ps_ret (pe_meth (pv 0) T.cl_Course T.m_Course__play_round (ok_Course__play_round T) (hr.mono (by decide)) T.b_Course__play_round .nil pass0 (pa_cons (pv 2) pa_nil)))))), ?_⟩
    refine q_when (et_test (by walk_at "ev")) (fun hb H1 e1 => ?_) (fun hb H1 e1 => ?_)
    · have hr0 : r = 0 := by simpa using hb
      refine s_retL (el_meth (ev_var rfl) (hP.nf.mono e1) (ea_cons ev_c ea_nil) (spl_play (s := 0) (hP.mono e1))) fun p H2 hp e2 h2 => ?_
      refine k p H2 (fresh_back e1 hp) (e1.trans e2) ?_
      rw [h2]
      unfold start1
      rw [if_pos hr0]
    · have hr0 : ¬ r = 0 := by simpa using hb
      have fg := hS.fg.mono e1
      have ff := hS.ff.mono e1
      have fu := hS.fu.mono e1
      refine q_asg (ev_min2 (by walk_at "ev") (ev_op (by walk_at "ev") (ev_op (by walk_at "ev") (by walk_at "ev") (rv_I (wide_ok hS.gb))) rv_I0)) fun H2 e2 => ?_
      refine s_retL (el_meth (ev_var rfl) (hP.nf.mono (e1.trans e2)) (ea_cons (ev_var rfl) ea_nil) (spl_play (hP.mono (e1.trans e2)))) fun p H3 hp e3 h3 => ?_
      refine k p H3 (fresh_back (e1.trans e2) hp) ((e1.trans e2).trans e3) ?_
      rw [h3]
      unfold start1
      rw [if_neg hr0]
/-- what a course tells -/
def stockI (bs ds ks : List Int) (gain first full day : Int) : Int := stkAt bs ds ks (start1 gain first full (day / (bs.length : Int))) (day % (bs.length : Int)).toNat
structure SM (K : PySem.W.Frag) (Z : Ad) (H : Hp) (c : Addr) (bs ds ks : List Int) (tb td tk : Addr) (gain first full : Int) : Prop where
  sr : SR K Z H c bs ds ks tb td tk gain first full
  nm : NoF H c Z.c_Course "_misses_in"
theorem SM.mono {K : PySem.W.Frag} {Z : Ad} {H H' : Hp} {c : Addr} {bs ds ks : List Int} {tb td tk : Addr} {gain first full : Int} (e : Ex H H') (h : SM K Z H c bs ds ks tb td tk gain first full) : SM K Z H' c bs ds ks tb td tk gain first full := ⟨h.sr.mono e, h.nm.mono e⟩
def sp_misses (K : PySem.W.Frag) (Z : Ad) : Sp := fun vs H Q _ => ∃ (c : Addr) (bs ds ks : List Int) (tb td tk : Addr) (gain first full r : Int), vs = [.ref c, .int r] ∧ SR K Z H c bs ds ks tb td tk gain first full ∧ RetL ((missL ds bs (stkL bs ds ks (start1 gain first full r))).map V.int) H Q
theorem spl_misses {K : PySem.W.Frag} {Z : Ad} {H : Hp} {c : Addr} {bs ds ks : List Int} {tb td tk : Addr} {gain first full r : Int} (h : SR K Z H c bs ds ks tb td tk gain first full) :
    SpL (sp_misses K Z) [.ref c, .int r] H ((missL ds bs (stkL bs ds ks (start1 gain first full r))).map V.int) :=
  fun _ e _ q _ => ⟨c, bs, ds, ks, tb, td, tk, gain, first, full, r, rfl, h.mono e, q⟩
theorem ok_Course__misses_in (T : Txt K mg Z) : FnOk P w K mg base CX0 3 Z.f_Course__misses_in Z.d_Course__misses_in p_Course__misses_in (sp_misses K Z) := by
  refine T.F_Course__misses_in.ok sc_Course__misses_in (fun vs H Q E h => ?_) (fun cdv Ar outer s H vs Q E hr h => ?_)
  · obtain ⟨c, bs, ds, ks, tb, td, tk, gain, first, full, r, rfl, _⟩ := h
    rfl
  · obtain ⟨c, bs, ds, ks, tb, td, tk, gain, first, full, r, rfl, hS, k⟩ := h
    have hP := hS.pr
    have hn := hP.gd.n1
    have hl := hP.gd.ld
    refine ⟨_, (pss_cons (ps_set (i := 2) sc_Course__misses_in.nd rfl (Or.inr rfl) (pe_meth (pv 0) T.cl_Course T.m_Course__stocks_in (ok_Course__stocks_in T) (hr.mono (by decide)) T.b_Course__stocks_in .nil pass0 (pa_cons (pv 1) pa_nil)))
      (pss_one (ps_ret (pe_lc (own := [("at", 3), ("demand", 4)]) rfl sc_Course__misses_in.nd (pi_enumTK K rfl (by rfl) T.b_enumerate (pa_cons (pe_fldK K rfl (pv 0) rfl) pa_nil)) (blkOk_by (own := [("at", 3), ("demand", 4)]) (N := n_Course__misses_in) (sc := defScope s_Course__misses_in) (scope := { kind := PySem.ScopeKind.function, names := [ (PySem.Str.ofString ".0", PySem.NameKind.local), (PySem.Str.ofString "at", PySem.NameKind.local), (PySem.Str.ofString "demand", PySem.NameKind.local), (PySem.Str.ofString "max", PySem.NameKind.globalImplicit), (PySem.Str.ofString "self", PySem.NameKind.free), (PySem.Str.ofString "stocks", PySem.NameKind.free)], isGenerator := false, isCoroutine := false, more := [] : PySem.Scope }) (by decide +kernel)) (fun _ _ _ _ _ => (by exact (pg_tupK K (n := 2) rfl rfl (pgs_cons (pg_name (i := 3) sc_Course__misses_in.nd rfl (Or.inl rfl)) (pgs_cons (pg_name (i := 4) sc_Course__misses_in.nd rfl (Or.inl rfl)) pgs_nil))))) (fun _ _ _ _ _ => pts_nil) (fun _ _ _ _ _ => (pe_callB (r := rMax2) (call_max2 rfl) (by rfl) T.b_max boot_max (pa_cons pe_int (pa_cons (pe_op op_sub (pe_op op_sub (pv 4) (pe_ix (r := rIxL K) ix_list (pv 2) (pv 3) (fun _ _ => rfl))) (pe_ix (r := rIxT K) ix_tup (pe_fldK K rfl (pv 0) rfl) (pv 3) (fun _ _ => rfl))) pa_nil)))))))), ?_⟩
    refine q_asgL (el_meth (ev_var rfl) hS.nf (ea_cons (ev_var rfl) ea_nil) (spl_stocks hS)) fun p H1 hp e1 h1 => ?_
    have hP1 := hP.mono e1
    have fb := hP1.fb
    have fd := hP1.fd
    refine s_retL (xs := (missL ds bs (stkL bs ds ks (start1 gain first full r))).map V.int) ?_ fun q H2 hq e2 h2 => k q H2 (fresh_back e1 hq) (e1.trans e2) h2
    unfold missL
    rw [← rng_map]
    have hdl : (ds.map V.int).length = ds.length := by rw [List.length_map]
    rw [← hdl]
    refine el_lcEnT _ (ea_cons (by walk_at "ev") ea_nil) hP1.hd (by rw [hdl]; omega) (fun _ _ => rfl) fun i x H3 e3 hx => ?_
    obtain ⟨rfl, hi⟩ := at_map hx
    have fb3 := fb.mono e3
    refine ev_maxi ev_c (ev_op (ev_op (ev_var rfl) (ev_ixL (ev_var rfl) (sq_of (e3 p _ h1)) (ev_var rfl) (atI_mapI (i := (i : Int)) (by omega) (by rw [stkL_len]; omega))) rv_I0) (ev_ixT (by walk_at "ev") (ex_t e3 hP1.hb) (ev_var rfl) (atI_mapI (i := (i : Int)) (by omega) (by omega))) rv_I0)
def sp_growing (K : PySem.W.Frag) (Z : Ad) : Sp := fun vs H Q _ => ∃ (c : Addr) (bs ds ks : List Int) (tb td tk : Addr) (gain first full : Int), vs = [.ref c] ∧ SR K Z H c bs ds ks tb td tk gain first full ∧ 0 ≤ gain ∧ RetV (.int (growing gain first full)) H Q
theorem ok_Course__count_growing (T : Txt K mg Z) : FnOk P w K mg base CX0 1 Z.f_Course__count_growing Z.d_Course__count_growing p_Course__count_growing (sp_growing K Z) := by
  refine T.F_Course__count_growing.ok sc_Course__count_growing (fun vs H Q E h => ?_) (fun cdv Ar outer s H vs Q E hr h => ?_)
  · obtain ⟨c, bs, ds, ks, tb, td, tk, gain, first, full, rfl, _⟩ := h
    rfl
  · obtain ⟨c, bs, ds, ks, tb, td, tk, gain, first, full, rfl, hS, hg, k⟩ := h
    have fg := hS.fg
    refine ⟨_, (pss_cons (ps_if (pt_cmpR op_eq (pe_fldK K rfl (pv 0) rfl) pe_int (nomark _)) (pss_one (ps_ret pe_int)) pss_nil)
      (pss_one (ps_ret (pe_un un_neg (pe_op op_fdivW (pe_op op_sub (pe_fldK K rfl (pv 0) rfl) (pe_fldK K rfl (pv 0) rfl)) (pe_fldK K rfl (pv 0) rfl)))))), ?_⟩
    refine q_when (et_test (by walk_at "ev")) (fun hb H1 e1 => ?_) (fun hb H1 e1 => ?_)
    · have hr0 : gain = 0 := by simpa using hb
      refine s_ret ev_c fun H2 e2 => ?_
      have z := k H2 (e1.trans e2)
      unfold growing at z
      rw [if_pos hr0] at z
      exact z
    · have hr0 : ¬ gain = 0 := by simpa using hb
      have fg := hS.fg.mono e1
      have ff := hS.ff.mono e1
      have fu := hS.fu.mono e1
      refine s_ret (ev_un (ev_op (by walk_at "ev") (by walk_at "ev") (rv_I (wide_div (by omega) hS.gb (by decide) (by decide)))) ru_neg) fun H2 e2 => ?_
      have z := k H2 (e1.trans e2)
      unfold growing at z
      rw [if_neg hr0] at z
      exact z
def sp_stock_at (K : PySem.W.Frag) (Z : Ad) : Sp := fun vs H Q _ => ∃ (c : Addr) (bs ds ks : List Int) (tb td tk : Addr) (gain first full day : Int), vs = [.ref c, .int day] ∧ SR K Z H c bs ds ks tb td tk gain first full ∧ RetV (.int (stockI bs ds ks gain first full day)) H Q
theorem spv_stock_at {K : PySem.W.Frag} {Z : Ad} {H : Hp} {c : Addr} {bs ds ks : List Int} {tb td tk : Addr} {gain first full day : Int} (h : SR K Z H c bs ds ks tb td tk gain first full) :
    SpV (sp_stock_at K Z) [.ref c, .int day] H (.int (stockI bs ds ks gain first full day)) :=
  fun _ e _ q _ => ⟨c, bs, ds, ks, tb, td, tk, gain, first, full, day, rfl, h.mono e, q⟩
theorem getD_map {ns : List Int} {i : Nat} : (ns.map V.int).getD i (V.int 0) = V.int (ns.getD i 0) := by
  simp [List.getD]
/-- a day's sales: sold, missed, thrown -/
def soldI (bs ds ks : List Int) (gain first full day : Int) : Int := min (stockI bs ds ks gain first full day + bs.getD (day % (bs.length : Int)).toNat 0) (ds.getD (day % (bs.length : Int)).toNat 0)
def endI (bs ds ks : List Int) (gain first full day : Int) : Int := stkAt bs ds ks (start1 gain first full (day / (bs.length : Int))) ((day % (bs.length : Int)).toNat + 1)
def salesI (bs ds ks : List Int) (gain first full day : Int) : List Int :=
  [soldI bs ds ks gain first full day, ds.getD (day % (bs.length : Int)).toNat 0 - soldI bs ds ks gain first full day,
   stockI bs ds ks gain first full day + bs.getD (day % (bs.length : Int)).toNat 0 - soldI bs ds ks gain first full day - endI bs ds ks gain first full day]
def sp_sales_on (K : PySem.W.Frag) (Z : Ad) : Sp := fun vs H Q _ => ∃ (c : Addr) (bs ds ks : List Int) (tb td tk : Addr) (gain first full day : Int), vs = [.ref c, .int day] ∧ SR K Z H c bs ds ks tb td tk gain first full ∧ RetU ((salesI bs ds ks gain first full day).map V.int) H Q
theorem spu_sales_on {K : PySem.W.Frag} {Z : Ad} {H : Hp} {c : Addr} {bs ds ks : List Int} {tb td tk : Addr} {gain first full day : Int} (h : SR K Z H c bs ds ks tb td tk gain first full) :
    SpU (sp_sales_on K Z) [.ref c, .int day] H ((salesI bs ds ks gain first full day).map V.int) :=
  fun _ e _ q _ => ⟨c, bs, ds, ks, tb, td, tk, gain, first, full, day, rfl, h.mono e, q⟩
theorem ok_Course_sales_on (T : Txt K mg Z) : FnOk P w K mg base CX0 3 Z.f_Course_sales_on Z.d_Course_sales_on p_Course_sales_on (sp_sales_on K Z) := by
  refine T.F_Course_sales_on.ok sc_Course_sales_on (fun vs H Q E h => ?_) (fun cdv Ar outer s H vs Q E hr h => ?_)
  · obtain ⟨c, bs, ds, ks, tb, td, tk, gain, first, full, day, rfl, _⟩ := h
    rfl
  · obtain ⟨c, bs, ds, ks, tb, td, tk, gain, first, full, day, rfl, hS, k⟩ := h
    have hP := hS.pr
    have fb := hP.fb
    have h0 := hP.gd.n0
    have h1 := hP.gd.n1
    have hld := hP.gd.ld
    have hl : ((bs.map V.int).length : Int) = (bs.length : Int) := by rw [List.length_map]
    have hr0 : 0 ≤ day % (bs.length : Int) := Int.emod_nonneg _ (by omega)
    have hr1 : day % (bs.length : Int) < (bs.length : Int) := Int.emod_lt_of_pos _ (by omega)
    refine ⟨_, (pss_cons (ps_asg (pe_callB (r := rDm) (call_divmod) (by rfl) T.b_divmod boot_divmod (pa_cons (pv 1) (pa_cons (pe_callB (r := rLenS K) (call_len_seq) (by rfl) T.b_len boot_len (pa_cons (pe_fldK K rfl (pv 0) rfl) pa_nil)) pa_nil))) (by exact (pg_tupK K (n := 2) rfl rfl (pgs_cons (pg_name (i := 2) sc_Course_sales_on.nd rfl (Or.inl rfl)) (pgs_cons (pg_name (i := 3) sc_Course_sales_on.nd rfl (Or.inl rfl)) pgs_nil)))))
      (pss_cons (ps_set (i := 4) sc_Course_sales_on.nd rfl (Or.inl rfl) (pe_meth (pv 0) T.cl_Course T.m_Course__stocks_in (ok_Course__stocks_in T) (hr.mono (by decide)) T.b_Course__stocks_in .nil pass0 (pa_cons (pv 2) pa_nil)))
      (pss_cons (ps_set (i := 5) sc_Course_sales_on.nd rfl (Or.inl rfl) (pe_op op_add (pe_ix (r := rIxL K) ix_list (pv 4) (pv 3) (fun _ _ => rfl)) (pe_ix (r := rIxT K) ix_tup (pe_fldK K rfl (pv 0) rfl) (pv 3) (fun _ _ => rfl))))
      (pss_cons (ps_set (i := 6) sc_Course_sales_on.nd rfl (Or.inl rfl) (pe_callB (r := rMn) (call_min2 rfl) (by rfl) T.b_min boot_min (pa_cons (pv 5) (pa_cons (pe_ix (r := rIxT K) ix_tup (pe_fldK K rfl (pv 0) rfl) (pv 3) (fun _ _ => rfl)) pa_nil))))
      (pss_one (ps_ret (pe_tup (pa_cons (pv 6) (pa_cons (pe_op op_sub (pe_ix (r := rIxT K) ix_tup (pe_fldK K rfl (pv 0) rfl) (pv 3) (fun _ _ => rfl)) (pv 6)) (pa_cons (pe_op op_sub (pe_op op_sub (pv 5) (pv 6)) (pe_ix (r := rIxL K) ix_list (pv 4) (pe_op op_add (pv 3) pe_int) (fun _ _ => rfl))) pa_nil)))))))))), ?_⟩
    refine q_pair (eu_dm (ev_var rfl) (Ev.int_eq (ev_lenT (by walk_at "ev") hP.hb) hl) ⟨by omega, by omega⟩) fun H1 e1 => ?_
    refine q_asgL (el_meth (ev_var rfl) (hS.nf.mono e1) (ea_cons (ev_var rfl) ea_nil) (spl_stocks (hS.mono e1))) fun p H2 hp e2 h2 => ?_
    have hP2 := hP.mono (e1.trans e2)
    have fb := hP2.fb
    have fd := hP2.fd
    refine q_asg (ev_op (ev_ixL (ev_var rfl) (sq_of h2) (ev_var rfl) (atI_mapI hr0 (by rw [stkL_len]; omega))) (ev_ixT (by walk_at "ev") hP2.hb (ev_var rfl) (atI_mapI hr0 hr1)) rv_I0) fun H3 e3 => ?_
    have fd3 := fd.mono e3
    refine q_asg (ev_min2 (ev_var rfl) (ev_ixT (by walk_at "ev") (ex_t e3 hP2.hd) (ev_var rfl) (atI_mapI hr0 (by omega)))) fun H4 e4 => ?_
    have fd4 := fd3.mono e4
    have ht : (day % (bs.length : Int) + 1).toNat = (day % (bs.length : Int)).toNat + 1 := by omega
    refine s_retU (eu_tup (ea_cons (ev_var rfl) (ea_cons (ev_op (ev_ixT (by walk_at "ev") (ex_t (e3.trans e4) hP2.hd) (ev_var rfl) (atI_mapI hr0 (by omega))) (ev_var rfl) rv_I0) (ea_cons (ev_op (ev_op (ev_var rfl) (ev_var rfl) rv_I0) (ev_ixL (ev_var rfl) (sq_of (e4 p _ (e3 p _ h2))) (by walk_at "ev") (atI_mapI (by omega) (by rw [stkL_len]; omega))) rv_I0) ea_nil))) (by show 3 ≤ 100000; decide)) fun q H5 hq e5 h5 => ?_
    refine k q H5 (fresh_back ((e1.trans e2).trans (e3.trans e4)) hq) (((e1.trans e2).trans (e3.trans e4)).trans e5) ?_
    rw [h5, ht, stkL_get (by omega), stkL_get (by omega)]
    rfl
end Sw
namespace Sw
open PySem PySem.Spec PyProof.Rows L2 Evl
local macro_rules | `(tactic| walk_at "ev") => `(tactic| first
  | exact ev_c
  | exact ev_var rfl
  | ((with_reducible show Ev (tCB rMax2 _) _ _ _); exact ev_maxi (by walk_at "ev") (by walk_at "ev"))
  | ((with_reducible show Ev (tCB rMn _) _ _ _); exact ev_min2 (by walk_at "ev") (by walk_at "ev"))
  | ((with_reducible show Ev (tUn _ _) _ _ _); exact ev_un (by walk_at "ev") ru_neg)
  | ((with_reducible show Ev (tFld _ _ _) _ _ _); exact ev_fldK (by walk_at "ev") (by assumption))
  | ((with_reducible show Ev (tOp (rI0 _) _ _) _ _ _); exact ev_op (by walk_at "ev") (by walk_at "ev") rv_I0)
  | ((with_reducible show Ev (tOp rEq _ _) _ _ _); exact ev_op (by walk_at "ev") (by walk_at "ev") (rv_eq rfl))
  | ((with_reducible show Ev (tOp rNe _ _) _ _ _); exact ev_op (by walk_at "ev") (by walk_at "ev") (rv_ne rfl)))

/-! ### find_settled, sum_settled_round, sales_before -/
structure FS (K : PySem.W.Frag) (Z : Ad) (H : Hp) (c : Addr) (bs ds ks : List Int) (tb td tk : Addr) (gain first full : Int) : Prop where
  sr : SR K Z H c bs ds ks tb td tk gain first full
  ng : NoF H c Z.c_Course "_count_growing"
theorem FS.mono {K : PySem.W.Frag} {Z : Ad} {H H' : Hp} {c : Addr} {bs ds ks : List Int} {tb td tk : Addr} {gain first full : Int} (e : Ex H H') (h : FS K Z H c bs ds ks tb td tk gain first full) : FS K Z H' c bs ds ks tb td tk gain first full := ⟨h.sr.mono e, h.ng.mono e⟩
/-- the first day of the round behind the growing ones that is as a round later -/
def SetAt (bs ds ks : List Int) (gain first full : Int) (i : Nat) : Prop := i ≤ bs.length ∧
  stkAt bs ds ks (start1 gain first full (growing gain first full)) i = stkAt bs ds ks (start1 gain first full (growing gain first full + 1)) i ∧
  ∀ j, j < i → stkAt bs ds ks (start1 gain first full (growing gain first full)) j ≠ stkAt bs ds ks (start1 gain first full (growing gain first full + 1)) j
def sp_settled (K : PySem.W.Frag) (Z : Ad) : Sp := fun vs H Q _ => ∃ (c : Addr) (bs ds ks : List Int) (tb td tk : Addr) (gain first full : Int) (i : Nat), vs = [.ref c] ∧ FS K Z H c bs ds ks tb td tk gain first full ∧ 0 ≤ gain ∧ SetAt bs ds ks gain first full i ∧
  RetV (.int (growing gain first full * (bs.length : Int) + (i : Int))) H Q
theorem spv_growing {K : PySem.W.Frag} {Z : Ad} {H : Hp} {c : Addr} {bs ds ks : List Int} {tb td tk : Addr} {gain first full : Int} (h : SR K Z H c bs ds ks tb td tk gain first full) (hg : 0 ≤ gain) :
    SpV (sp_growing K Z) [.ref c] H (.int (growing gain first full)) := fun _ e _ q _ => ⟨c, bs, ds, ks, tb, td, tk, gain, first, full, rfl, h.mono e, hg, q⟩
variable {P : Program} {w : World} {K : PySem.W.Frag} {mg : Str → Option Value} {base : Heap} {Z : Ad}
theorem ok_Course_find_settled (T : Txt K mg Z) : FnOk P w K mg base CX0 3 Z.f_Course_find_settled Z.d_Course_find_settled p_Course_find_settled (sp_settled K Z) := by
  refine T.F_Course_find_settled.ok sc_Course_find_settled (fun vs H Q E h => ?_) (fun cdv Ar outer s H vs Q E hr h => ?_)
  · obtain ⟨c, bs, ds, ks, tb, td, tk, gain, first, full, i, rfl, _⟩ := h
    rfl
  · obtain ⟨c, bs, ds, ks, tb, td, tk, gain, first, full, i, rfl, hF, hg, hi, k⟩ := h
    have hS := hF.sr
    have hP := hS.pr
    have hn := hP.gd.n1
    refine ⟨_, (pss_cons (ps_set (i := 1) sc_Course_find_settled.nd rfl (Or.inl rfl) (pe_meth0 (pv 0) T.cl_Course T.m_Course__count_growing (ok_Course__count_growing T) (hr.mono (by decide)) T.b_Course__count_growing .nil pass0))
      (pss_cons (ps_set (i := 2) sc_Course_find_settled.nd rfl (Or.inl rfl) (pe_meth (pv 0) T.cl_Course T.m_Course__stocks_in (ok_Course__stocks_in T) (hr.mono (by decide)) T.b_Course__stocks_in .nil pass0 (pa_cons (pv 1) pa_nil)))
      (pss_cons (ps_set (i := 3) sc_Course_find_settled.nd rfl (Or.inl rfl) (pe_meth (pv 0) T.cl_Course T.m_Course__stocks_in (ok_Course__stocks_in T) (hr.mono (by decide)) T.b_Course__stocks_in .nil pass0 (pa_cons (pe_op op_add (pv 1) pe_int) pa_nil)))
      (pss_cons (ps_set (i := 4) sc_Course_find_settled.nd rfl (Or.inl rfl) pe_int)
      (pss_cons (ps_while PassesOwn.never (pt_cmpR op_ne (pe_ix (r := rIxL K) ix_list (pv 2) (pv 4) (fun _ _ => rfl)) (pe_ix (r := rIxL K) ix_list (pv 3) (pv 4) (fun _ _ => rfl)) (nomark _)) (pss_one (ps_aug (i := 4) sc_Course_find_settled.nd rfl (Or.inl rfl) pe_int in_add)))
      (pss_one (ps_ret (pe_op op_add (pe_op op_mul (pv 1) (pe_callB (r := rLenS K) (call_len_seq) (by rfl) T.b_len boot_len (pa_cons (pe_fldK K rfl (pv 0) rfl) pa_nil))) (pv 4))))))))), ?_⟩
    refine q_asg (ev_meth (ev_var rfl) hF.ng ea_nil (spv_growing hS hg)) fun H1 e1 => ?_
    refine q_asgL (el_meth (ev_var rfl) (hS.nf.mono e1) (ea_cons (ev_var rfl) ea_nil) (spl_stocks (hS.mono e1))) fun p H2 hp e2 h2 => ?_
    refine q_asgL (el_meth (ev_var rfl) (hS.nf.mono (e1.trans e2)) (ea_cons (by walk_at "ev") ea_nil) (spl_stocks (hS.mono (e1.trans e2)))) fun q H3 hq e3 h3 => ?_
    refine q_asg ev_c fun H4 e4 => ?_
    refine q_while (fun m σ' H' => ∃ j : Nat, m = i - j ∧ j ≤ i ∧ σ' = [some (.ref c), some (.int (growing gain first full)), some (.ref p), some (.ref q), some (.int (j : Int))] ∧ Ex H4 H') i ⟨0, rfl, Nat.zero_le _, rfl, Ex.refl _⟩ ?_
    rintro m σ' H' ⟨j, rfl, hj, rfl, e5⟩
    have hjn : j ≤ bs.length := Nat.le_trans hj hi.1
    refine ⟨!decide (stkAt bs ds ks (start1 gain first full (growing gain first full)) j = stkAt bs ds ks (start1 gain first full (growing gain first full + 1)) j), ?_, fun hb H5 e6 => ?_, fun hb H5 e6 => ?_⟩
    · refine et_test ?_
      refine ev_is (ev_op (ev_ixL (ev_var rfl) (sq_of (e5 _ _ (e4 _ _ (e3 _ _ h2)))) (ev_var rfl) (atI_mapI (i := (j : Int)) (by omega) (by rw [stkL_len]; omega)))
        (ev_ixL (ev_var rfl) (sq_of (e5 _ _ (e4 _ _ h3))) (ev_var rfl) (atI_mapI (i := (j : Int)) (by omega) (by rw [stkL_len]; omega))) (rv_ne rfl)) ?_
      rw [Int.toNat_natCast, stkL_get hjn, stkL_get hjn]
      simp
    · have hne : stkAt bs ds ks (start1 gain first full (growing gain first full)) j ≠ stkAt bs ds ks (start1 gain first full (growing gain first full + 1)) j := by simpa using hb
      have hlt : j < i := by
        rcases Nat.lt_or_ge j i with z | z
        · exact z
        · have : j = i := by omega
          subst this
          exact absurd hi.2.1 hne
      refine ⟨fun σ2 H2 => ∃ m', m' < i - j ∧ ∃ j' : Nat, m' = i - j' ∧ j' ≤ i ∧ σ2 = [some (.ref c), some (.int (growing gain first full)), some (.ref p), some (.ref q), some (.int (j' : Int))] ∧ Ex H4 H2, fun σ2 H2 h => h, ?_⟩
      refine s_aug (a := (j : Int)) (b := 1) rfl ev_c fun H6 e7 => ?_
      exact ⟨i - (j + 1), by omega, j + 1, rfl, hlt, rfl, (e5.trans e6).trans e7⟩
    · have heq : stkAt bs ds ks (start1 gain first full (growing gain first full)) j = stkAt bs ds ks (start1 gain first full (growing gain first full + 1)) j := by simpa using hb
      have hji : j = i := by
        rcases Nat.lt_or_ge j i with z | z
        · exact absurd heq (hi.2.2 j z)
        · omega
      subst hji
      have eA : Ex H H5 := ((((e1.trans e2).trans e3).trans e4).trans e5).trans e6
      have fb := hP.fb.mono eA
      have hl : ((bs.map V.int).length : Int) = (bs.length : Int) := by rw [List.length_map]
      refine s_ret (ev_op (ev_op (ev_var rfl) (Ev.int_eq (ev_lenT (by walk_at "ev") (ex_t eA hP.hb)) hl) (rv_I (wide_ok (by omega)))) (ev_var rfl) rv_I0) fun H6 e7 => k H6 (eA.trans e7)
/-- the whole course -/
structure CO (K : PySem.W.Frag) (Z : Ad) (H : Hp) (c : Addr) (bs ds ks : List Int) (gain first full : Int) (fm lm : List Int) : Prop where
  sr : ∃ tb td tk, SR K Z H c bs ds ks tb td tk gain first full
  ffm : ∃ tf, FlK K H c Z.c_Course "_first_misses" (.ref tf) ∧ SqL K H tf (fm.map V.int)
  flm : ∃ tl, FlK K H c Z.c_Course "_later_misses" (.ref tl) ∧ SqL K H tl (lm.map V.int)
  lfm : fm.length = bs.length
  llm : lm.length = bs.length
  slm : lm.sum.natAbs ≤ 2 ^ 40
  sb : bs.sum.natAbs ≤ 2 ^ 40
  sd : ds.sum.natAbs ≤ 2 ^ 40
  nf : ∀ m : Str, m ∈ (["stock_at", "sales_on", "sales_before", "find_settled", "sum_settled_round", "loaves_at", "_misses_in", "_count_growing"] : List Str) → NoF H c Z.c_Course m
theorem CO.mono {K : PySem.W.Frag} {Z : Ad} {H H' : Hp} {c : Addr} {bs ds ks : List Int} {gain first full : Int} {fm lm : List Int} (e : Ex H H') (h : CO K Z H c bs ds ks gain first full fm lm) : CO K Z H' c bs ds ks gain first full fm lm :=
  ⟨let ⟨a, b, c, x⟩ := h.sr; ⟨a, b, c, x.mono e⟩, let ⟨a, x, y⟩ := h.ffm; ⟨a, x.mono e, ex_l e y⟩, let ⟨a, x, y⟩ := h.flm; ⟨a, x.mono e, ex_l e y⟩, h.lfm, h.llm, h.slm, h.sb, h.sd, fun m hm => (h.nf m hm).mono e⟩
def longI (bs ds lm : List Int) : List Int := [ds.sum - lm.sum, lm.sum, bs.sum - (ds.sum - lm.sum)]
def sp_sumround (K : PySem.W.Frag) (Z : Ad) : Sp := fun vs H Q _ => ∃ (c : Addr) (bs ds ks : List Int) (gain first full : Int) (fm lm : List Int), vs = [.ref c] ∧ CO K Z H c bs ds ks gain first full fm lm ∧ RetU ((longI bs ds lm).map V.int) H Q
theorem ok_Course_sum_settled_round (T : Txt K mg Z) : FnOk P w K mg base CX0 1 Z.f_Course_sum_settled_round Z.d_Course_sum_settled_round p_Course_sum_settled_round (sp_sumround K Z) := by
  refine T.F_Course_sum_settled_round.ok sc_Course_sum_settled_round (fun vs H Q E h => ?_) (fun cdv Ar outer s H vs Q E hr h => ?_)
  · obtain ⟨c, bs, ds, ks, gain, first, full, fm, lm, rfl, _⟩ := h
    rfl
  · obtain ⟨c, bs, ds, ks, gain, first, full, fm, lm, rfl, hC, k⟩ := h
    obtain ⟨tb, td, tk, hS⟩ := hC.sr
    obtain ⟨tl, fl, hl⟩ := hC.flm
    have hP := hS.pr
    have fd := hP.fd
    refine ⟨_, (pss_cons (ps_set (i := 1) sc_Course_sum_settled_round.nd rfl (Or.inl rfl) (pe_callB (r := rSum K) (cr_sum rfl) (by rfl) T.b_sum boot_sum (pa_cons (pe_fldK K rfl (pv 0) rfl) pa_nil)))
      (pss_cons (ps_set (i := 2) sc_Course_sum_settled_round.nd rfl (Or.inl rfl) (pe_op op_sub (pe_callB (r := rSumT K) (cr_sumT rfl) (by rfl) T.b_sum boot_sum (pa_cons (pe_fldK K rfl (pv 0) rfl) pa_nil)) (pv 1)))
      (pss_one (ps_ret (pe_tup (pa_cons (pv 2) (pa_cons (pv 1) (pa_cons (pe_op op_sub (pe_callB (r := rSumT K) (cr_sumT rfl) (by rfl) T.b_sum boot_sum (pa_cons (pe_fldK K rfl (pv 0) rfl) pa_nil)) (pv 2)) pa_nil)))))))), ?_⟩
    refine q_asg (ev_sumL (by walk_at "ev") hl) fun H1 e1 => ?_
    have fd := hP.fd.mono e1
    refine q_asg (ev_op (ev_sumT (by walk_at "ev") (ex_t e1 hP.hd)) (by walk_at "ev") rv_I0) fun H2 e2 => ?_
    have fb := hP.fb.mono (e1.trans e2)
    refine s_retU (eu_tup (ea_cons (ev_var rfl) (ea_cons (ev_var rfl) (ea_cons (ev_op (ev_sumT (by walk_at "ev") (ex_t (e1.trans e2) hP.hb)) (ev_var rfl) rv_I0) ea_nil))) (by show 3 ≤ 100000; decide)) fun q H3 hq e3 h3 => k q H3 (fresh_back (e1.trans e2) hq) ((e1.trans e2).trans e3) h3
/-- the first so many days -/
def missedI (bs fm lm : List Int) (days : Int) : Int := (fm.take days.toNat).sum + sumRep lm (max 0 (days - (bs.length : Int)))
def totI (bs ds ks : List Int) (gain first full : Int) (fm lm : List Int) (days : Int) : List Int :=
  [sumRep ds days - missedI bs fm lm days, missedI bs fm lm days, sumRep bs days - (sumRep ds days - missedI bs fm lm days) - stockI bs ds ks gain first full days]
def sp_before (K : PySem.W.Frag) (Z : Ad) : Sp := fun vs H Q _ => ∃ (c : Addr) (bs ds ks : List Int) (gain first full : Int) (fm lm : List Int) (days : Int), vs = [.ref c, .int days] ∧ 0 ≤ days ∧ CO K Z H c bs ds ks gain first full fm lm ∧ RetU ((totI bs ds ks gain first full fm lm days).map V.int) H Q
theorem spv_sumrep {K : PySem.W.Frag} {H : Hp} {a : Addr} {am : List Int} {days : Int} (h : SqT K H a (am.map V.int) ∨ SqL K H a (am.map V.int)) (h0 : 0 < am.length) (h1 : am.length ≤ 24) (h2 : am.sum.natAbs ≤ 2 ^ 40) :
    SpV (sp_sum_repeated K) [.ref a, .int days] H (.int (sumRep am days)) := fun _ e _ q _ => ⟨a, am, days, rfl, h.imp (ex_t e) (ex_l e), h0, h1, h2, q⟩
end Sw
namespace Sw
open PySem PySem.Spec PyProof.Rows L2 Evl
local macro_rules | `(tactic| walk_at "ev") => `(tactic| first
  | exact ev_c
  | exact ev_var rfl
  | ((with_reducible show Ev (tCB rMax2 _) _ _ _); exact ev_maxi (by walk_at "ev") (by walk_at "ev"))
  | ((with_reducible show Ev (tCB rMn _) _ _ _); exact ev_min2 (by walk_at "ev") (by walk_at "ev"))
  | ((with_reducible show Ev (tUn _ _) _ _ _); exact ev_un (by walk_at "ev") ru_neg)
  | ((with_reducible show Ev (tFld _ _ _) _ _ _); exact ev_fldK (by walk_at "ev") (by assumption))
  | ((with_reducible show Ev (tOp (rI0 _) _ _) _ _ _); exact ev_op (by walk_at "ev") (by walk_at "ev") rv_I0)
  | ((with_reducible show Ev (tOp rEq _ _) _ _ _); exact ev_op (by walk_at "ev") (by walk_at "ev") (rv_eq rfl))
  | ((with_reducible show Ev (tOp rNe _ _) _ _ _); exact ev_op (by walk_at "ev") (by walk_at "ev") (rv_ne rfl)))

/-! ### what a course is made with -/
def gainOf (bs ds : List Int) : Int := max 0 (bs.sum - ds.sum)
def firstOf (bs ds ks : List Int) : Int := stkAt bs ds ks 0 bs.length
def fullOf (bs ds ks : List Int) : Int := stkAt bs ds ks (ks.getD 0 0 + ds.getD 0 0) bs.length
def fmOf (bs ds ks : List Int) : List Int := missL ds bs (stkL bs ds ks (start1 (gainOf bs ds) (firstOf bs ds ks) (fullOf bs ds ks) 0))
def lmOf (bs ds ks : List Int) : List Int := missL ds bs (stkL bs ds ks (start1 (gainOf bs ds) (firstOf bs ds ks) (fullOf bs ds ks) 1))
theorem sum_bound {xs : List Int} {M : Int} (hM : 0 ≤ M) (h : ∀ x ∈ xs, 0 ≤ x ∧ x ≤ M) : 0 ≤ xs.sum ∧ xs.sum ≤ (xs.length : Int) * M := by
  induction xs with
  | nil => simp
  | cons a r ih =>
    have h1 := h a (by simp)
    have h2 := ih fun x hx => h x (by simp [hx])
    rw [List.sum_cons, List.length_cons]
    have e : ((r.length + 1 : Nat) : Int) * M = (r.length : Int) * M + M := by
      rw [Int.natCast_add, Int.add_mul]; simp
    omega
theorem sum_small {xs : List Int} (hl : xs.length ≤ 24) (h : ∀ x ∈ xs, 0 ≤ x ∧ x ≤ 1000000000) : 0 ≤ xs.sum ∧ xs.sum ≤ 24000000000 := by
  have z := sum_bound (by omega : (0 : Int) ≤ 1000000000) h
  have : (xs.length : Int) * 1000000000 ≤ 24 * 1000000000 := Int.mul_le_mul_of_nonneg_right (by omega) (by omega)
  omega
theorem getD_mem0 {xs : List Int} {i : Nat} (h : ∀ x ∈ xs, 0 ≤ x ∧ x ≤ 1000000000) : 0 ≤ xs.getD i 0 ∧ xs.getD i 0 ≤ 1000000000 := by
  by_cases hi : i < xs.length
  · have e : xs.getD i 0 = xs[i] := by simp [List.getD, hi]
    rw [e]; exact h _ (List.getElem_mem hi)
  · have e : xs.getD i 0 = 0 := by simp [List.getD, List.getElem?_eq_none (Nat.le_of_not_lt hi)]
    rw [e]; omega
theorem keepAt_nn {bs : List Int} {life : Int} {i : Nat} (h : ∀ x ∈ bs, 0 ≤ x ∧ x ≤ 1000000000) : 0 ≤ keepAt bs life i := by
  unfold keepAt
  generalize (life - 1).toNat = m
  induction m with
  | zero => simp
  | succ m ih =>
    rw [List.range_succ, List.map_append, List.sum_append]
    have z := (getD_mem0 (i := ((((i : Int) - (m : Int)) % (bs.length : Int)).toNat)) h).1
    simp at z ih ⊢
    omega
theorem keepL_nn {bs : List Int} {life : Int} (h : ∀ x ∈ bs, 0 ≤ x ∧ x ≤ 1000000000) {i : Nat} : 0 ≤ (keepL bs life).getD i 0 := by
  unfold keepL
  by_cases hi : i < bs.length
  · have e : ((List.range bs.length).map (keepAt bs life)).getD i 0 = keepAt bs life i := by simp [List.getD, List.getElem?_range hi]
    rw [e]; exact keepAt_nn h
  · have e : ((List.range bs.length).map (keepAt bs life)).getD i 0 = 0 := by
      simp [List.getD, List.getElem?_eq_none (show (List.map (keepAt bs life) (List.range bs.length)).length ≤ i by simp; omega)]
    rw [e]; omega
theorem stp_nn {s b d k : Int} (hk : 0 ≤ k) : 0 ≤ stp s b d k := by unfold stp; omega
theorem stkAt_nn {bs ds ks : List Int} {s : Int} (hs : 0 ≤ s) (hk : ∀ i, 0 ≤ ks.getD i 0) (i : Nat) : 0 ≤ stkAt bs ds ks s i := by
  cases i with
  | zero => exact hs
  | succ i => exact stp_nn (hk i)
theorem missL_len {ds bs st : List Int} : (missL ds bs st).length = ds.length := by simp [missL]
theorem missL_small {ds bs st : List Int} (hd : ∀ x ∈ ds, 0 ≤ x ∧ x ≤ 1000000000) (hb : ∀ i, 0 ≤ bs.getD i 0) (hs : ∀ i, i < ds.length → 0 ≤ st.getD i 0) : ∀ x ∈ missL ds bs st, 0 ≤ x ∧ x ≤ 1000000000 := by
  intro x hx
  unfold missL at hx
  obtain ⟨i, hi, rfl⟩ := List.mem_map.mp hx
  have h1 := hb i
  have h2 := hs i (List.mem_range.mp hi)
  have h3 := getD_mem0 (i := i) hd
  omega
theorem start1_nn {gain first full r : Int} (hg : 0 ≤ gain) (hf : 0 ≤ first) (hu : 0 ≤ full) (hr : 0 ≤ r) : 0 ≤ start1 gain first full r := by
  unfold start1
  by_cases h : r = 0
  · rw [if_pos h]; omega
  · rw [if_neg h]
    have : 0 ≤ (r - 1) * gain := Int.mul_nonneg (by omega) hg
    omega
structure CoM (bs ds ks : List Int) : Prop where
  gd : Good bs ds
  kl : ks.length = bs.length
  kn : ∀ i, 0 ≤ ks.getD i 0
theorem CoM.first {bs ds ks : List Int} (h : CoM bs ds ks) : 0 ≤ firstOf bs ds ks := stkAt_nn (by omega) h.kn _
theorem CoM.full {bs ds ks : List Int} (h : CoM bs ds ks) : 0 ≤ fullOf bs ds ks := stkAt_nn (by have := h.kn 0; have := (getD_mem0 (i := 0) h.gd.d0).1; omega) h.kn _
theorem CoM.gainb {bs ds ks : List Int} (h : CoM bs ds ks) : 0 ≤ gainOf bs ds ∧ gainOf bs ds ≤ 24000000000 := by
  have z1 := sum_small h.gd.n1 h.gd.b0
  have z2 := sum_small (by have := h.gd.ld; have := h.gd.n1; omega) h.gd.d0
  unfold gainOf; omega
theorem CoM.miss {bs ds ks : List Int} (h : CoM bs ds ks) {r : Int} (hr : 0 ≤ r) : ∀ x ∈ missL ds bs (stkL bs ds ks (start1 (gainOf bs ds) (firstOf bs ds ks) (fullOf bs ds ks) r)), 0 ≤ x ∧ x ≤ 1000000000 := by
  refine missL_small h.gd.d0 (fun i => (getD_mem0 h.gd.b0).1) fun i hi => ?_
  rw [stkL_get (by have := h.gd.ld; omega)]
  exact stkAt_nn (start1_nn h.gainb.1 h.first h.full hr) h.kn i
/-- from H to S, what is not of M is kept, and what is of M is known -/
structure Go (M : Addr → Prop) (a : Addr) (H S : Hp) : Prop where
  ex : Ex (wn H M) (wn S M)
  kn : ∀ b, M b → S b ≠ none
  al : ∀ b o, H b = some o → b ≠ a → S b = some o
theorem Go.up {M : Addr → Prop} {H H1 : Hp} {a : Addr} {o : HO} (ha : M a) (kn : ∀ b, M b → H b ≠ none) (e : Ex H H1) : Go M a H (upd H1 a o) := by
  refine ⟨(wn_mono e).trans (wn_upd ha), fun b hb q => ?_, fun b u h z => by rw [upd_ne z]; exact e b u h⟩
  by_cases z : b = a
  · rw [z, upd_same] at q; cases q
  · rw [upd_ne z] at q
    cases hh : H b with
    | none => exact kn b hb hh
    | some u => rw [e b u hh] at q; cases q
/-- the finished course of a bakery -/
def CoAt (K : PySem.W.Frag) (Z : Ad) (H : Hp) (c : Addr) (bs ds ks : List Int) : Prop :=
  CO K Z H c bs ds ks (gainOf bs ds) (firstOf bs ds ks) (fullOf bs ds ks) (fmOf bs ds ks) (lmOf bs ds ks)
def sp_Cinit (K : PySem.W.Frag) (Z : Ad) : Sp := fun vs H Q _ => ∃ (x dx tb td : Addr) (bs ds : List Int) (life : Int) (N : Addr → Prop), vs = [.ref x, .ref tb, .ref td, .int life] ∧ H x = some (.ins Z.c_Course dx []) ∧
  SqT K (wn H N) tb (bs.map V.int) ∧ SqT K (wn H N) td (ds.map V.int) ∧ Good bs ds ∧ 1 ≤ life ∧ life ≤ 30 ∧
  (∀ b, N b → H b ≠ none) ∧ ¬ N x ∧ ∀ H', CoAt K Z (wn H' N) x bs ds (keepL bs life) → (∀ b o, H b = some o → b ≠ x → H' b = some o) → Q .non H'
theorem spl_keep {K : PySem.W.Frag} {H : Hp} {a : Addr} {bs : List Int} {life : Int} (h : SqT K H a (bs.map V.int)) (h0 : 0 < bs.length) (h1 : bs.length ≤ 24) (h2 : 1 ≤ life) (h3 : life ≤ 30) :
    SpL (sp_count_keepable K) [.ref a, .int life] H ((keepL bs life).map V.int) := fun _ e _ q _ => ⟨a, bs, life, rfl, ex_t e h, h0, h1, h2, h3, q⟩
theorem keepL_len {bs : List Int} {life : Int} : (keepL bs life).length = bs.length := by simp [keepL]
theorem atI_neg1 {xs : List Int} {n : Nat} (h : xs.length = n + 1) : atI (xs.map V.int) (-1) = some (.int (xs.getD n 0)) := by
  have e : ixN (xs.map V.int).length (-1) = some n := by
    unfold ixN
    rw [List.length_map, h]
    rw [if_neg (by omega), if_pos (by omega)]
    congr 1
    omega
  unfold atI
  rw [e]
  simp [List.getD, h]
theorem flk_of {K : PySem.W.Frag} {S : Hp} {x C dx : Addr} {fs : List (Str × V)} {f : Str} {v : V} (h : S x = some (.ins C dx fs)) (c : Cls K C) (n : NoAttr K C f) (l : fs.lookup f = some v) : FlK K S x C f v := ⟨⟨dx, fs, h, l⟩, c, n⟩
def cf3 (tb td tk : Addr) : List (Str × V) := putF "_keepable" (.ref tk) (putF "_demands" (.ref td) (putF "_bakes" (.ref tb) []))
def cf6 (tb td tk : Addr) (g a b : Int) : List (Str × V) := putF "_full_end" (.int b) (putF "_first_end" (.int a) (putF "_gain" (.int g) (cf3 tb td tk)))
def cf8 (tb td tk tf tl : Addr) (g a b : Int) : List (Str × V) := putF "_later_misses" (.ref tl) (putF "_first_misses" (.ref tf) (cf6 tb td tk g a b))
section
variable {K : PySem.W.Frag} {σ : L2.St} {H : Hp} {ta te : TE} {v : V} {a C dx : Addr} {fs : List (Str × V)} {f : Str} {D : Ends} {tz : TS}
variable {M : Addr → Prop}
/-- self.f = e while self is being made -/
theorem q_self (ha : M a) (kn : ∀ b, M b → H b ≠ none) (h : Ev te σ H v) (ho : ∀ H1, Ex H H1 → Ev ta σ H1 (.ref a)) (hx : H a = some (.ins C dx fs)) (c : Cls K C) (n : NoAttr K C f) (hl : fs.length < 1000)
    (k : ∀ S : Hp, S a = some (.ins C dx (putF f v fs)) → Go M a H S → tz D σ S) : tSeq (sFld K ta te f) tz D σ H := q_fld h ho hx c n hl fun H1 e => k _ upd_same (Go.up ha kn e)
theorem fresh_l {H H1 : Hp} {p : Addr} {xs : List V} {o : HO} (ha : M a) (kn : ∀ b, M b → H b ≠ none) (hp : H p = none) (h1 : H1 p = some (.lst xs)) : SqL K (wn (upd H1 a o) M) p xs := by
  have q : ¬ M p := fun z => kn p z hp
  have nb : p ≠ a := fun z => q (by rw [z]; exact ha)
  exact sq_of (by rw [wn_ni q, upd_ne nb]; exact h1)
theorem fresh_t {H H1 : Hp} {p : Addr} {xs : List V} {o : HO} (ha : M a) (kn : ∀ b, M b → H b ≠ none) (hp : H p = none) (h1 : H1 p = some (.tup xs)) : SqT K (wn (upd H1 a o) M) p xs := by
  have q : ¬ M p := fun z => kn p z hp
  have nb : p ≠ a := fun z => q (by rw [z]; exact ha)
  exact st_of (by rw [wn_ni q, upd_ne nb]; exact h1)
theorem q_selfL {xs : List V} (ha : M a) (kn : ∀ b, M b → H b ≠ none) (h : EvL te σ H xs) (ho : ∀ H1, Ex H H1 → Ev ta σ H1 (.ref a)) (hx : H a = some (.ins C dx fs)) (c : Cls K C) (n : NoAttr K C f) (hl : fs.length < 1000)
    (k : ∀ (p : Addr) (S : Hp), SqL K (wn S M) p xs → S a = some (.ins C dx (putF f (.ref p) fs)) → Go M a H S → tz D σ S) : tSeq (sFld K ta te f) tz D σ H := q_fldL h ho hx c n hl fun p H1 hp e h1 =>
  k p _ (fresh_l ha kn hp h1) upd_same (Go.up ha kn e)
theorem s_selfL {xs : List V} (ha : M a) (kn : ∀ b, M b → H b ≠ none) (h : EvL te σ H xs) (ho : ∀ H1, Ex H H1 → Ev ta σ H1 (.ref a)) (hx : H a = some (.ins C dx fs)) (c : Cls K C) (n : NoAttr K C f) (hl : fs.length < 1000)
    (k : ∀ (p : Addr) (S : Hp), SqL K (wn S M) p xs → S a = some (.ins C dx (putF f (.ref p) fs)) → Go M a H S → D.nx σ S) : sFld K ta te f D σ H := s_fldL h ho hx c n hl fun p H1 hp e h1 =>
  k p _ (fresh_l ha kn hp h1) upd_same (Go.up ha kn e)
theorem q_selfU {xs : List V} (ha : M a) (kn : ∀ b, M b → H b ≠ none) (h : EvU te σ H xs) (ho : ∀ H1, Ex H H1 → Ev ta σ H1 (.ref a)) (hx : H a = some (.ins C dx fs)) (c : Cls K C) (n : NoAttr K C f) (hl : fs.length < 1000)
    (k : ∀ (p : Addr) (S : Hp), SqT K (wn S M) p xs → S a = some (.ins C dx (putF f (.ref p) fs)) → Go M a H S → D.nx σ S) : sFld K ta te f D σ H := s_fldU h ho hx c n hl fun p H1 hp e h1 =>
  k p _ (fresh_t ha kn hp h1) upd_same (Go.up ha kn e)
end
variable {P : Program} {w : World} {K : PySem.W.Frag} {mg : Str → Option Value} {base : Heap} {Z : Ad}
theorem ok_Course___init__ (T : Txt K mg Z) : FnOk P w K mg base CX0 4 Z.f_Course___init__ Z.d_Course___init__ p_Course___init__ (sp_Cinit K Z) := by
  refine T.F_Course___init__.ok sc_Course___init__ (fun vs H Q E h => ?_) (fun cdv Ar outer s H vs Q E hr h => ?_)
  · obtain ⟨x, dx, tb, td, bs, ds, life, N, rfl, _⟩ := h
    rfl
  · obtain ⟨x, dx, tb, td, bs, ds, life, N, rfl, hx, hb, hd, gd, l0, l1, hN, nNx, k⟩ := h
    have hM : nx x N x := .inl rfl
    have cl := T.cl_Course
    have hbw : SqT K (wn H (nx x N)) tb (bs.map V.int) := wn_tx hx hb
    have hdw : SqT K (wn H (nx x N)) td (ds.map V.int) := wn_tx hx hd
    have kn0 : ∀ b, nx x N b → H b ≠ none := fun b z q => z.elim (fun e => by rw [e, hx] at q; cases q) fun e => hN b e q
    refine ⟨_, (pss_cons (ps_fld (pv 0) (pv 1) rfl)
      (pss_cons (ps_fld (pv 0) (pv 2) rfl)
      (pss_cons (ps_fld (pv 0) (pe_call (ok_count_keepable T) (hr.mono (by decide)) (by rfl) T.g_count_keepable T.F_count_keepable.kp T.b_count_keepable .nil pass0 (pa_cons (pv 1) (pa_cons (pv 3) pa_nil))) rfl)
      (pss_cons (ps_fld (pv 0) (pe_callB (r := rMax2) (call_max2 rfl) (by rfl) T.b_max boot_max (pa_cons pe_int (pa_cons (pe_op op_sub (pe_callB (r := rSumT K) (cr_sumT rfl) (by rfl) T.b_sum boot_sum (pa_cons (pv 1) pa_nil)) (pe_callB (r := rSumT K) (cr_sumT rfl) (by rfl) T.b_sum boot_sum (pa_cons (pv 2) pa_nil))) pa_nil))) rfl)
      (pss_cons (ps_fld (pv 0) (pe_ix (r := rIxL K) ix_list (pe_meth (pv 0) T.cl_Course T.m_Course__play_round (ok_Course__play_round T) (hr.mono (by decide)) T.b_Course__play_round .nil pass0 (pa_cons pe_int pa_nil)) (pe_un un_neg pe_int) (fun _ _ => rfl)) rfl)
      (pss_cons (ps_fld (pv 0) (pe_ix (r := rIxL K) ix_list (pe_meth (pv 0) T.cl_Course T.m_Course__play_round (ok_Course__play_round T) (hr.mono (by decide)) T.b_Course__play_round .nil pass0 (pa_cons (pe_op op_add (pe_ix (r := rIxL K) ix_list (pe_fldK K rfl (pv 0) rfl) pe_int (fun _ _ => rfl)) (pe_ix (r := rIxT K) ix_tup (pv 2) pe_int (fun _ _ => rfl))) pa_nil)) (pe_un un_neg pe_int) (fun _ _ => rfl)) rfl)
      (pss_cons (ps_fld (pv 0) (pe_meth (pv 0) T.cl_Course T.m_Course__misses_in (ok_Course__misses_in T) (hr.mono (by decide)) T.b_Course__misses_in .nil pass0 (pa_cons pe_int pa_nil)) rfl)
      (pss_one (ps_fld (pv 0) (pe_meth (pv 0) T.cl_Course T.m_Course__misses_in (ok_Course__misses_in T) (hr.mono (by decide)) T.b_Course__misses_in .nil pass0 (pa_cons pe_int pa_nil)) rfl))))))))), ?_⟩
    -- _bakes, _demands, _keepable
    refine q_self hM kn0 (ev_var rfl) (fun _ _ => ev_var rfl) hx cl T.na_Course__bakes (by decide) fun S1 x1 g1 => ?_
    have w1 := g1.ex
    refine q_self hM g1.kn (ev_var rfl) (fun _ _ => ev_var rfl) x1 cl T.na_Course__demands (by show 1 < 1000; decide) fun S2 x2 g2 => ?_
    have w2 := g2.ex
    refine q_selfL hM g2.kn (el_call (vs := [.ref tb, .int life]) (ea_cons (ev_var rfl) (ea_cons (ev_var rfl) ea_nil)) (spl_keep (ex_t ((w1.trans w2).trans wn_ex) hbw) gd.n0 gd.n1 l0 l1)) (fun _ _ => ev_var rfl) x2 cl T.na_Course__keepable (by show 2 < 1000; decide) fun tk S3 hk3 x3 g3 => ?_
    have w3' := g3.ex
    have w3 := (w1.trans w2).trans w3'
    have m0 : CoM bs ds (keepL bs life) := ⟨gd, keepL_len, fun i => keepL_nn gd.b0⟩
    have sb : ∀ {S : Hp}, Ex (wn S (nx x N)) (wn S N) := wn_sub fun b z => .inr z
    have pr : ∀ {S : Hp} {fs : List (Str × V)}, Ex (wn S3 (nx x N)) (wn S (nx x N)) → S x = some (.ins Z.c_Course dx fs) → fs.lookup ("_bakes" : Str) = some (V.ref tb) → fs.lookup ("_demands" : Str) = some (V.ref td) → fs.lookup ("_keepable" : Str) = some (V.ref tk) → fs.lookup ("_play_round" : Str) = none → PR K Z (wn S N) x bs ds (keepL bs life) tb td tk :=
      fun e hx' l1 l2 l3 l4 => by
        have hx : wn _ N x = _ := (wn_ni nNx).trans hx'
        exact ⟨flk_of hx cl T.na_Course__bakes l1, ex_t sb (ex_t e (ex_t w3 hbw)), flk_of hx cl T.na_Course__demands l2, ex_t sb (ex_t e (ex_t w3 hdw)), flk_of hx cl T.na_Course__keepable l3, ex_l sb (ex_l e hk3), ⟨_, _, hx, l4⟩, gd, keepL_len⟩
    -- _gain
    refine q_self hM g3.kn (v := .int (gainOf bs ds)) (ev_maxi ev_c (ev_op (ev_sumT (ev_var rfl) (ex_t wn_ex (ex_t w3 hbw))) (ev_sumT (ev_var rfl) (ex_t wn_ex (ex_t w3 hdw))) rv_I0)) (fun _ _ => ev_var rfl) x3 cl T.na_Course__gain (by show 3 < 1000; decide) fun S4 x4 g4 => ?_
    have w4 := g4.ex
    have p4 := (pr w4 x4 rfl rfl rfl rfl).mono wn_ex
    -- _first_end
    have n1 : (stkL bs ds (keepL bs life) 0).length = bs.length + 1 := stkL_len
    refine q_self hM g4.kn (v := .int (firstOf bs ds (keepL bs life))) (ev_is (ev_ixNL (el_meth (ev_var rfl) p4.nf (ea_cons ev_c ea_nil) (spl_play (s := 0) p4)) (ev_un ev_c ru_neg) (atI_neg1 n1)) (by rw [stkL_get (Nat.le_refl _)]; rfl)) (fun _ _ => ev_var rfl) x4 cl T.na_Course__first_end (by show 4 < 1000; decide) fun S5 x5 g5 => ?_
    have w5 := g5.ex
    have p5 := (pr (w4.trans w5) x5 rfl rfl rfl rfl).mono wn_ex
    -- _full_end
    have n2 : (stkL bs ds (keepL bs life) ((keepL bs life).getD 0 0 + ds.getD 0 0)).length = bs.length + 1 := stkL_len
    have h0 := gd.n0
    have hld := gd.ld
    have fk5 := p5.fk
    refine q_self hM g5.kn (v := .int (fullOf bs ds (keepL bs life))) (ev_is (ev_ixNL (el_meth (ev_var rfl) p5.nf (ea_cons (ev_op (ev_ixL (by walk_at "ev") p5.hk ev_c (atI_mapI (i := 0) (by omega) (by rw [keepL_len]; omega))) (ev_ixT (ev_var rfl) p5.hd ev_c (atI_mapI (i := 0) (by omega) (by omega))) rv_I0) ea_nil) (spl_play p5)) (ev_un ev_c ru_neg) (atI_neg1 n2)) (by rw [stkL_get (Nat.le_refl _)]; rfl)) (fun _ _ => ev_var rfl) x5 cl T.na_Course__full_end (by show 5 < 1000; decide) fun S6 x6 g6 => ?_
    have w6 := g6.ex
    have w46 := (w4.trans w5).trans w6
    have gb := m0.gainb
    have sr : ∀ {S : Hp} {fs : List (Str × V)}, Ex (wn S6 (nx x N)) (wn S (nx x N)) → S x = some (.ins Z.c_Course dx fs) → fs.lookup ("_bakes" : Str) = some (V.ref tb) → fs.lookup ("_demands" : Str) = some (V.ref td) → fs.lookup ("_keepable" : Str) = some (V.ref tk) → fs.lookup ("_play_round" : Str) = none →
        fs.lookup ("_gain" : Str) = some (V.int (gainOf bs ds)) → fs.lookup ("_first_end" : Str) = some (V.int (firstOf bs ds (keepL bs life))) → fs.lookup ("_full_end" : Str) = some (V.int (fullOf bs ds (keepL bs life))) → fs.lookup ("_stocks_in" : Str) = none → SR K Z (wn S N) x bs ds (keepL bs life) tb td tk (gainOf bs ds) (firstOf bs ds (keepL bs life)) (fullOf bs ds (keepL bs life)) :=
      fun e hx' l1 l2 l3 l4 l5 l6 l7 l8 => by
        have hx : wn _ N x = _ := (wn_ni nNx).trans hx'
        exact ⟨pr (w46.trans e) hx' l1 l2 l3 l4, flk_of hx cl T.na_Course__gain l5, flk_of hx cl T.na_Course__first_end l6, flk_of hx cl T.na_Course__full_end l7, ⟨_, _, hx, l8⟩, by omega⟩
    have s6 := (sr (Ex.refl _) x6 rfl rfl rfl rfl rfl rfl rfl rfl).mono wn_ex
    refine q_selfL hM g6.kn (xs := (fmOf bs ds (keepL bs life)).map V.int) (el_meth (ev_var rfl) ⟨_, _, x6, rfl⟩ (ea_cons ev_c ea_nil) (spl_misses (r := 0) s6)) (fun _ _ => ev_var rfl) x6 cl T.na_Course__first_misses (by show 6 < 1000; decide) fun tf S7 hf7 x7 g7 => ?_
    have w7 := g7.ex
    have s7 := (sr w7 x7 rfl rfl rfl rfl rfl rfl rfl rfl).mono wn_ex
    refine s_selfL hM g7.kn (xs := (lmOf bs ds (keepL bs life)).map V.int) (el_meth (ev_var rfl) ⟨_, _, x7, rfl⟩ (ea_cons ev_c ea_nil) (spl_misses (r := 1) s7)) (fun _ _ => ev_var rfl) x7 cl T.na_Course__later_misses (by show 7 < 1000; decide) fun tl S8 hl8 x8 g8 => ?_
    have w8 := g8.ex
    have s8 := sr (w7.trans w8) x8 rfl rfl rfl rfl rfl rfl rfl rfl
    have ll : (lmOf bs ds (keepL bs life)).length = bs.length := by unfold lmOf; rw [missL_len]; exact hld
    have q1 := sum_small (xs := lmOf bs ds (keepL bs life)) (by rw [ll]; exact gd.n1) (m0.miss (r := 1) (by omega))
    have q2 := sum_small gd.n1 gd.b0
    have q3 := sum_small (by have := gd.n1; omega) gd.d0
    have y8 : wn S8 N x = _ := (wn_ni nNx).trans x8
    refine k S8 ⟨⟨tb, td, tk, s8⟩, ⟨tf, flk_of y8 cl T.na_Course__first_misses rfl, ex_l sb (ex_l w8 hf7)⟩, ⟨tl, flk_of y8 cl T.na_Course__later_misses rfl, ex_l sb hl8⟩, ?_, ll, ?_, by omega, by omega, ?_⟩ fun b o hbo hne => ?_
    · unfold fmOf; rw [missL_len]; exact hld
    · omega
    · intro m hm
      refine ⟨_, _, y8, ?_⟩
      simp only [List.mem_cons, List.not_mem_nil, or_false] at hm
      rcases hm with rfl | rfl | rfl | rfl | rfl | rfl | rfl | rfl <;> rfl
    · exact g8.al b o (g7.al b o (g6.al b o (g5.al b o (g4.al b o (g3.al b o (g2.al b o (g1.al b o hbo hne) hne) hne) hne) hne) hne) hne) hne
end Sw
namespace Sw
/-! ### the mathematics of the stock -/
section
variable {bs ds ks : List Int}
/-- what is gained in the first so many days of a round -/
def dlt (bs ds : List Int) : Nat → Int
  | 0 => 0
  | i + 1 => dlt bs ds i + (bs.getD i 0 - ds.getD i 0)
theorem clamp_step {lo hi z b d k : Int} (h0 : 0 ≤ lo) (h1 : lo ≤ hi) (hk : 0 ≤ k) :
    stp (min hi (max lo z)) b d k = min (stp hi b d k) (max (stp lo b d k) (z + (b - d))) := by
  unfold stp; omega
theorem clamp (h : CoM bs ds ks) (i : Nat) (hi : 0 < i) : ∃ lo hi : Int, 0 ≤ lo ∧ lo ≤ hi ∧ (∀ x, stkAt bs ds ks x i = min hi (max lo (x + dlt bs ds i))) ∧ stkAt bs ds ks (ks.getD 0 0 + ds.getD 0 0) i = hi := by
  induction i with
  | zero => omega
  | succ i ih =>
    have hk := h.kn i
    by_cases hi0 : i = 0
    · subst hi0
      have hb := (getD_mem0 (i := 0) h.gd.b0).1
      refine ⟨0, ks.getD 0 0, Int.le_refl _, hk, fun x => ?_, ?_⟩
      · show stp x _ _ _ = _
        unfold stp dlt dlt
        omega
      · show stp _ _ _ _ = _
        unfold stp
        simp only [stkAt]
        omega
    · obtain ⟨lo, hi', a, b, c, d⟩ := ih (by omega)
      refine ⟨stp lo (bs.getD i 0) (ds.getD i 0) (ks.getD i 0), stp hi' (bs.getD i 0) (ds.getD i 0) (ks.getD i 0), stp_nn hk, by unfold stp; omega, fun x => ?_, ?_⟩
      · show stp (stkAt bs ds ks x i) _ _ _ = _
        rw [c x, clamp_step a b hk]
        have e : x + dlt bs ds i + (bs.getD i 0 - ds.getD i 0) = x + dlt bs ds (i + 1) := by
          show _ = x + (dlt bs ds i + _); omega
        rw [e]
      · show stp (stkAt bs ds ks _ i) _ _ _ = _
        rw [d]
theorem sum_take_succ (xs : List Int) (i : Nat) : (xs.take (i + 1)).sum = (xs.take i).sum + xs.getD i 0 := by
  induction xs generalizing i with
  | nil => simp
  | cons a r ih =>
    cases i with
    | zero => simp
    | succ i =>
      have z := ih i
      simp only [List.take_succ_cons, List.sum_cons, List.getD_cons_succ]
      omega
theorem dlt_sum (i : Nat) : dlt bs ds i = (bs.take i).sum - (ds.take i).sum := by
  induction i with
  | zero => simp [dlt]
  | succ i ih => rw [sum_take_succ, sum_take_succ, dlt, ih]; omega
/-- a round: from the stock at its beginning to the one at its end -/
theorem round_clamp (h : CoM bs ds ks) : ∃ lo : Int, 0 ≤ lo ∧ lo ≤ fullOf bs ds ks ∧ ∀ x, stkAt bs ds ks x bs.length = min (fullOf bs ds ks) (max lo (x + (bs.sum - ds.sum))) := by
  obtain ⟨lo, hi, a, b, c, d⟩ := clamp h bs.length h.gd.n0
  have e : fullOf bs ds ks = hi := d
  have q : dlt bs ds bs.length = bs.sum - ds.sum := by
    rw [dlt_sum, List.take_length, ← h.gd.ld, List.take_length]
  rw [e]
  exact ⟨lo, a, b, fun x => by rw [c x, q]⟩
abbrev st (bs ds ks : List Int) (r : Int) : Int := start1 (gainOf bs ds) (firstOf bs ds ks) (fullOf bs ds ks) r
theorem st_zero : st bs ds ks 0 = 0 := by unfold st start1; rw [if_pos rfl]
theorem st_pos {r : Int} (h : r ≠ 0) : st bs ds ks r = min (fullOf bs ds ks) (firstOf bs ds ks + (r - 1) * gainOf bs ds) := by unfold st start1; rw [if_neg h]
theorem st_step (h : CoM bs ds ks) {r : Int} (hr : 0 ≤ r) : st bs ds ks (r + 1) = stkAt bs ds ks (st bs ds ks r) bs.length := by
  obtain ⟨lo, a, b, c⟩ := round_clamp h
  have hf : firstOf bs ds ks = min (fullOf bs ds ks) (max lo (0 + (bs.sum - ds.sum))) := c 0
  rw [st_pos (by omega)]
  by_cases h0 : r = 0
  · subst h0
    rw [st_zero]
    show _ = firstOf bs ds ks
    have e : ((0 : Int) + 1 - 1) * gainOf bs ds = 0 := by simp
    rw [e]; omega
  · rw [st_pos h0, c]
    have e : (r + 1 - 1) * gainOf bs ds = (r - 1) * gainOf bs ds + gainOf bs ds := by
      have : r + 1 - 1 = (r - 1) + 1 := by omega
      rw [this, Int.add_mul, Int.one_mul]
    rw [e]
    have hg : gainOf bs ds = max 0 (bs.sum - ds.sum) := rfl
    have hp : 0 ≤ (r - 1) * gainOf bs ds := Int.mul_nonneg (by omega) (by omega)
    by_cases hd : bs.sum - ds.sum ≤ 0
    · have g0 : gainOf bs ds = 0 := by omega
      rw [g0, Int.mul_zero]
      omega
    · generalize (r - 1) * gainOf bs ds = t at hp
      omega
/-- the days one by one -/
def dayS (bs ds ks : List Int) : Nat → Int
  | 0 => 0
  | t + 1 => stp (dayS bs ds ks t) (bs.getD (t % bs.length) 0) (ds.getD (t % bs.length) 0) (ks.getD (t % bs.length) 0)
theorem dayS_round (h : CoM bs ds ks) (r : Nat) : ∀ i, i ≤ bs.length → dayS bs ds ks (r * bs.length + i) = stkAt bs ds ks (st bs ds ks (r : Int)) i := by
  have hn := h.gd.n0
  induction r with
  | zero =>
    intro i hi
    rw [show ((0 : Nat) : Int) = 0 from rfl, st_zero]
    induction i with
    | zero => simp [dayS, stkAt]
    | succ i ih =>
      have e : (0 * bs.length + i) % bs.length = i := by rw [Nat.zero_mul, Nat.zero_add, Nat.mod_eq_of_lt (by omega)]
      rw [show 0 * bs.length + (i + 1) = (0 * bs.length + i) + 1 by omega]
      show stp (dayS bs ds ks (0 * bs.length + i)) _ _ _ = stp (stkAt bs ds ks 0 i) _ _ _
      rw [e, ih (by omega)]
  | succ r ihr =>
    intro i hi
    induction i with
    | zero =>
      have z := ihr bs.length (Nat.le_refl _)
      rw [← st_step h (by omega)] at z
      rw [show (r + 1) * bs.length + 0 = r * bs.length + bs.length by rw [Nat.add_mul, Nat.one_mul]; omega, z]
      show st bs ds ks ((r : Int) + 1) = st bs ds ks (((r + 1 : Nat)) : Int)
      congr 1
    | succ i ih =>
      have e : ((r + 1) * bs.length + i) % bs.length = i := by rw [Nat.mul_comm, Nat.mul_add_mod, Nat.mod_eq_of_lt (by omega)]
      rw [show (r + 1) * bs.length + (i + 1) = ((r + 1) * bs.length + i) + 1 by omega]
      show stp (dayS bs ds ks ((r + 1) * bs.length + i)) _ _ _ = stp (stkAt bs ds ks _ i) _ _ _
      rw [e, ih (by omega)]
theorem day_split (t n : Nat) (hn : 0 < n) : ((t : Int) / (n : Int)) = ((t / n : Nat) : Int) ∧ ((t : Int) % (n : Int)).toNat = t % n := by
  constructor
  · exact (Int.natCast_ediv t n).symm
  · have := Int.natCast_emod t n; omega
theorem stock_is (h : CoM bs ds ks) (t : Nat) : stockI bs ds ks (gainOf bs ds) (firstOf bs ds ks) (fullOf bs ds ks) (t : Int) = dayS bs ds ks t := by
  have hn := h.gd.n0
  obtain ⟨e1, e2⟩ := day_split t bs.length hn
  unfold stockI
  rw [e1, e2]
  have z := dayS_round h (t / bs.length) (t % bs.length) (Nat.le_of_lt (Nat.mod_lt _ hn))
  rw [show t / bs.length * bs.length + t % bs.length = t by rw [Nat.mul_comm]; exact Nat.div_add_mod _ _] at z
  exact z.symm
theorem end_is (h : CoM bs ds ks) (t : Nat) : endI bs ds ks (gainOf bs ds) (firstOf bs ds ks) (fullOf bs ds ks) (t : Int) = dayS bs ds ks (t + 1) := by
  have hn := h.gd.n0
  obtain ⟨e1, e2⟩ := day_split t bs.length hn
  unfold endI
  rw [e1, e2]
  have z := dayS_round h (t / bs.length) (t % bs.length + 1) (Nat.mod_lt _ hn)
  rw [show t / bs.length * bs.length + (t % bs.length + 1) = t + 1 by have := Nat.div_add_mod t bs.length; rw [Nat.mul_comm]; omega] at z
  exact z.symm
theorem dayS_nn (h : CoM bs ds ks) (t : Nat) : 0 ≤ dayS bs ds ks t := by
  cases t with
  | zero => exact Int.le_refl _
  | succ t => exact stp_nn (h.kn _)
/-- the stock is never less than a round before -/
theorem dayS_le (h : CoM bs ds ks) (t : Nat) : dayS bs ds ks t ≤ dayS bs ds ks (t + bs.length) := by
  induction t with
  | zero => exact dayS_nn h _
  | succ t ih =>
    rw [show t + 1 + bs.length = (t + bs.length) + 1 by omega]
    show stp _ _ _ _ ≤ stp _ _ _ _
    rw [Nat.add_mod_right]
    unfold stp; omega
theorem dayS_same {t : Nat} (e : dayS bs ds ks t = dayS bs ds ks (t + bs.length)) (u : Nat) : dayS bs ds ks (t + u) = dayS bs ds ks (t + u + bs.length) := by
  induction u with
  | zero => exact e
  | succ u ih =>
    rw [show t + (u + 1) + bs.length = (t + u + bs.length) + 1 by omega, show t + (u + 1) = (t + u) + 1 by omega]
    show stp _ _ _ _ = stp _ _ _ _
    rw [Nat.add_mod_right, ih]
/-! ### the settled day -/
theorem least {p : Nat → Prop} : ∀ n, p n → ∃ m, m ≤ n ∧ p m ∧ ∀ j, j < m → ¬ p j := by
  intro n
  induction n using Nat.strongRecOn with
  | ind n ih =>
    intro hp
    by_cases q : ∃ j, j < n ∧ p j
    · obtain ⟨j, hj, hpj⟩ := q
      obtain ⟨m, a, b, c⟩ := ih j hj hpj
      exact ⟨m, by omega, b, c⟩
    · exact ⟨n, Nat.le_refl _, hp, fun j hj hpj => q ⟨j, hj, hpj⟩⟩
abbrev grw (bs ds ks : List Int) : Int := growing (gainOf bs ds) (firstOf bs ds ks) (fullOf bs ds ks)
theorem first_le (h : CoM bs ds ks) : firstOf bs ds ks ≤ fullOf bs ds ks := by
  obtain ⟨lo, a, b, c⟩ := round_clamp h
  have hf : firstOf bs ds ks = min (fullOf bs ds ks) (max lo (0 + (bs.sum - ds.sum))) := c 0
  omega
/-- how the growing rounds are counted -/
theorem grw_props (h : CoM bs ds ks) : 0 ≤ grw bs ds ks ∧ fullOf bs ds ks ≤ firstOf bs ds ks + grw bs ds ks * gainOf bs ds ∨ gainOf bs ds = 0 ∧ grw bs ds ks = 0 := by
  have hg := h.gainb.1
  have hl := first_le h
  by_cases g0 : gainOf bs ds = 0
  · exact .inr ⟨g0, by unfold grw growing; rw [if_pos g0]⟩
  · left
    have gp : 0 < gainOf bs ds := by omega
    unfold grw growing
    rw [if_neg g0]
    have e := Int.ediv_mul_le (firstOf bs ds ks - fullOf bs ds ks) g0
    have q : (firstOf bs ds ks - fullOf bs ds ks) / gainOf bs ds ≤ 0 := by
      have := Int.ediv_le_ediv gp (show firstOf bs ds ks - fullOf bs ds ks ≤ 0 by omega)
      simpa using this
    rw [Int.neg_mul]
    omega
theorem grw_nn (h : CoM bs ds ks) : 0 ≤ grw bs ds ks := by
  rcases grw_props h with z | z <;> omega
theorem grw_end (h : CoM bs ds ks) : st bs ds ks (grw bs ds ks + 1) = st bs ds ks (grw bs ds ks + 2) := by
  have hn := grw_nn h
  rw [st_pos (by omega), st_pos (by omega)]
  rw [show grw bs ds ks + 1 - 1 = grw bs ds ks by omega, show grw bs ds ks + 2 - 1 = grw bs ds ks + 1 by omega, Int.add_mul, Int.one_mul]
  have hg := h.gainb.1
  rcases grw_props h with z | z
  · generalize grw bs ds ks * gainOf bs ds = t at z ⊢
    omega
  · rw [z.1]; simp
theorem set_ex (h : CoM bs ds ks) : ∃ i, SetAt bs ds ks (gainOf bs ds) (firstOf bs ds ks) (fullOf bs ds ks) i := by
  have hn := grw_nn h
  have e : stkAt bs ds ks (st bs ds ks (grw bs ds ks)) bs.length = stkAt bs ds ks (st bs ds ks (grw bs ds ks + 1)) bs.length := by
    rw [← st_step h hn, ← st_step h (by omega)]
    rw [show grw bs ds ks + 1 + 1 = grw bs ds ks + 2 by omega]
    exact grw_end h
  obtain ⟨m, a, b, c⟩ := least (p := fun i => stkAt bs ds ks (st bs ds ks (grw bs ds ks)) i = stkAt bs ds ks (st bs ds ks (grw bs ds ks + 1)) i) bs.length e
  exact ⟨m, a, b, c⟩
end
end Sw
namespace Sw
section
variable {bs ds ks : List Int}
/-! ### from the settled day on -/
theorem settled_same (h : CoM bs ds ks) {i : Nat} (hi : SetAt bs ds ks (gainOf bs ds) (firstOf bs ds ks) (fullOf bs ds ks) i) {t : Nat} (ht : grw bs ds ks * (bs.length : Int) + (i : Int) ≤ (t : Int)) :
    dayS bs ds ks t = dayS bs ds ks (t + bs.length) := by
  have hn := grw_nn h
  obtain ⟨R, hR⟩ : ∃ R : Nat, grw bs ds ks = (R : Int) := ⟨(grw bs ds ks).toNat, by omega⟩
  obtain ⟨a, b, c⟩ := hi
  change stkAt bs ds ks (st bs ds ks (grw bs ds ks)) i = stkAt bs ds ks (st bs ds ks (grw bs ds ks + 1)) i at b
  rw [hR] at b ht
  rw [← dayS_round h R i a, show ((R : Int) + 1) = ((R + 1 : Nat) : Int) by omega, ← dayS_round h (R + 1) i a, show (R + 1) * bs.length + i = R * bs.length + i + bs.length by rw [Nat.add_mul, Nat.one_mul]; omega] at b
  have e : (R : Int) * (bs.length : Int) = ((R * bs.length : Nat) : Int) := by rw [Int.natCast_mul]
  rw [e] at ht
  obtain ⟨u, rfl⟩ : ∃ u, t = R * bs.length + i + u := ⟨t - (R * bs.length + i), by omega⟩
  exact dayS_same b u
theorem settled_least (h : CoM bs ds ks) {i : Nat} (hi : SetAt bs ds ks (gainOf bs ds) (firstOf bs ds ks) (fullOf bs ds ks) i) {t : Nat} (ht : grw bs ds ks * (bs.length : Int) + (i : Int) = (t : Int) + 1) :
    dayS bs ds ks t ≠ dayS bs ds ks (t + bs.length) := by
  have hn := grw_nn h
  obtain ⟨R, hR⟩ : ∃ R : Nat, grw bs ds ks = (R : Int) := ⟨(grw bs ds ks).toNat, by omega⟩
  obtain ⟨a, b, c⟩ := hi
  change stkAt bs ds ks (st bs ds ks (grw bs ds ks)) i = stkAt bs ds ks (st bs ds ks (grw bs ds ks + 1)) i at b
  have e : (R : Int) * (bs.length : Int) = ((R * bs.length : Nat) : Int) := by rw [Int.natCast_mul]
  rw [hR, e] at ht
  cases i with
  | succ i =>
    have q := c i (Nat.lt_succ_self i)
    change stkAt bs ds ks (st bs ds ks (grw bs ds ks)) i ≠ stkAt bs ds ks (st bs ds ks (grw bs ds ks + 1)) i at q
    rw [hR, ← dayS_round h R i (by omega), show ((R : Int) + 1) = ((R + 1 : Nat) : Int) by omega, ← dayS_round h (R + 1) i (by omega), show (R + 1) * bs.length + i = R * bs.length + i + bs.length by rw [Nat.add_mul, Nat.one_mul]; omega] at q
    rwa [show t = R * bs.length + i by omega]
  | zero =>
    exfalso
    have b' : st bs ds ks (grw bs ds ks) = st bs ds ks (grw bs ds ks + 1) := b
    have hg := h.gainb.1
    have hl := first_le h
    have hR0 : R ≠ 0 := by
      intro z; subst z
      simp at ht; omega
    have g0 : ¬ gainOf bs ds = 0 := by
      intro z
      have : grw bs ds ks = 0 := by unfold grw growing; rw [if_pos z]
      omega
    have gp : 0 < gainOf bs ds := by omega
    rw [st_pos (by omega), st_pos (by omega), show grw bs ds ks + 1 - 1 = grw bs ds ks by omega, Int.sub_mul, Int.one_mul] at b'
    have ee : grw bs ds ks = -((firstOf bs ds ks - fullOf bs ds ks) / gainOf bs ds) := by unfold grw growing; rw [if_neg g0]
    have q1 := Int.lt_ediv_add_one_mul_self (firstOf bs ds ks - fullOf bs ds ks) gp
    have q2 : grw bs ds ks * gainOf bs ds = -((firstOf bs ds ks - fullOf bs ds ks) / gainOf bs ds * gainOf bs ds) := by rw [ee, Int.neg_mul]
    rw [Int.add_mul, Int.one_mul] at q1
    rcases grw_props h with z | z
    · generalize grw bs ds ks * gainOf bs ds = t1 at *
      generalize (firstOf bs ds ks - fullOf bs ds ks) / gainOf bs ds * gainOf bs ds = t2 at *
      omega
    · omega
/-! ### sums over days -/
def psum (f : Nat → Int) : Nat → Int
  | 0 => 0
  | t + 1 => psum f t + f t
theorem psum_add (f : Nat → Int) (a b : Nat) : psum f (a + b) = psum f a + psum (fun j => f (a + j)) b := by
  induction b with
  | zero => simp [psum]
  | succ b ih =>
    show psum f (a + b) + f (a + b) = _
    rw [ih]
    show _ = psum f a + (psum (fun j => f (a + j)) b + f (a + b))
    omega
theorem psum_congr {f g : Nat → Int} {n : Nat} (h : ∀ j, j < n → f j = g j) : psum f n = psum g n := by
  induction n with
  | zero => rfl
  | succ n ih =>
    show psum f n + f n = psum g n + g n
    rw [ih fun j hj => h j (by omega), h n (by omega)]
theorem psum_zero (n : Nat) : psum (fun _ => 0) n = 0 := by
  induction n with
  | zero => rfl
  | succ n ih => show psum _ n + 0 = 0; rw [ih]; rfl
theorem psum_sub (f g : Nat → Int) (n : Nat) : psum (fun j => f j - g j) n = psum f n - psum g n := by
  induction n with
  | zero => simp [psum]
  | succ n ih => show psum _ n + (f n - g n) = psum f n + f n - (psum g n + g n); rw [ih]; omega
theorem psum_take (xs : List Int) : ∀ n, (xs.take n).sum = psum (fun j => xs.getD j 0) n := by
  intro n
  induction n with
  | zero => simp [psum]
  | succ n ih => rw [sum_take_succ, ih]; rfl
theorem psum_sum (xs : List Int) : psum (fun j => xs.getD j 0) xs.length = xs.sum := by rw [← psum_take, List.take_length]
/-- a function that repeats after n, summed up over windows of n -/
theorem window {f : Nat → Int} {n a : Nat} (hf : ∀ t, a ≤ t → f (t + n) = f t) (u : Nat) : psum (fun j => f (a + u + j)) n = psum (fun j => f (a + j)) n := by
  induction u with
  | zero => rfl
  | succ u ih =>
    have e1 := psum_add (fun j => f (a + u + j)) 1 n
    have e2 := psum_add (fun j => f (a + u + j)) n 1
    rw [Nat.add_comm 1 n] at e1
    have e3 : psum (fun j => f (a + u + j)) 1 = f (a + u) := by show 0 + f (a + u + 0) = _; simp
    have e4 : psum (fun j => f (a + u + (n + j))) 1 = f (a + u + n) := by show 0 + f (a + u + (n + 0)) = _; simp
    have e5 : psum (fun j => f (a + u + (1 + j))) n = psum (fun j => f (a + (u + 1) + j)) n := psum_congr fun j _ => by congr 1; omega
    have e6 := hf (a + u) (by omega)
    rw [e3, e5] at e1
    rw [e4] at e2
    omega
theorem rounds_psum {f : Nat → Int} {n a : Nat} (hf : ∀ t, a ≤ t → f (t + n) = f t) (T : Nat) : psum f (a + T * n) = psum f a + (T : Int) * psum (fun j => f (a + j)) n := by
  induction T with
  | zero => simp
  | succ T ih =>
    rw [show a + (T + 1) * n = (a + T * n) + n by rw [Nat.add_mul, Nat.one_mul]; omega, psum_add, ih]
    have := window hf (T * n)
    rw [this]
    have : ((T + 1 : Nat) : Int) = (T : Int) + 1 := by omega
    rw [this, Int.add_mul, Int.one_mul]
    omega
theorem sumRep_psum (am : List Int) (h : 0 < am.length) (m : Nat) : sumRep am (m : Int) = psum (fun j => am.getD (j % am.length) 0) m := by
  obtain ⟨e1, e2⟩ := day_split m am.length h
  unfold sumRep
  rw [e1, e2]
  have hp : ∀ t, 0 ≤ t → (fun j => am.getD (j % am.length) 0) (t + am.length) = (fun j => am.getD (j % am.length) 0) t := fun t _ => by simp [Nat.add_mod_right]
  have z := rounds_psum (f := fun j => am.getD (j % am.length) 0) (n := am.length) (a := 0) hp (m / am.length)
  have e : m = (0 + m / am.length * am.length) + m % am.length := by have := Nat.div_add_mod m am.length; rw [Nat.mul_comm] at this; omega
  have w : psum (fun j => am.getD (j % am.length) 0) m = psum (fun j => am.getD (j % am.length) 0) (0 + m / am.length * am.length) + psum (fun j => (fun j => am.getD (j % am.length) 0) (0 + m / am.length * am.length + j)) (m % am.length) := by
    rw [← psum_add, ← e]
  rw [w, z]
  have q1 : psum (fun j => (fun j => am.getD (j % am.length) 0) (0 + j)) am.length = am.sum := by
    rw [← psum_sum]
    exact psum_congr fun j hj => by simp [Nat.mod_eq_of_lt hj]
  have q2 : psum (fun j => (fun j => am.getD (j % am.length) 0) (0 + m / am.length * am.length + j)) (m % am.length) = (am.take (m % am.length)).sum := by
    rw [psum_take]
    refine psum_congr fun j hj => ?_
    have hlt := Nat.mod_lt m h
    show am.getD ((0 + m / am.length * am.length + j) % am.length) 0 = _
    rw [Nat.zero_add, Nat.mul_comm, Nat.mul_add_mod, Nat.mod_eq_of_lt (by omega)]
  rw [q1, q2]
  show _ = 0 + _ + _
  omega
/-! ### a day's sales -/
def bk (bs : List Int) (t : Nat) : Int := bs.getD (t % bs.length) 0
def dm (bs ds : List Int) (t : Nat) : Int := ds.getD (t % bs.length) 0
def misS (bs ds ks : List Int) (t : Nat) : Int := max 0 (dm bs ds t - dayS bs ds ks t - bk bs t)
def solS (bs ds ks : List Int) (t : Nat) : Int := dm bs ds t - misS bs ds ks t
def thrS (bs ds ks : List Int) (t : Nat) : Int := bk bs t - solS bs ds ks t - (dayS bs ds ks (t + 1) - dayS bs ds ks t)
theorem sales_is (h : CoM bs ds ks) (t : Nat) : salesI bs ds ks (gainOf bs ds) (firstOf bs ds ks) (fullOf bs ds ks) (t : Int) = [solS bs ds ks t, misS bs ds ks t, thrS bs ds ks t] := by
  have hn := h.gd.n0
  obtain ⟨e1, e2⟩ := day_split t bs.length hn
  have es : soldI bs ds ks (gainOf bs ds) (firstOf bs ds ks) (fullOf bs ds ks) (t : Int) = solS bs ds ks t := by
    unfold soldI
    rw [stock_is h, e2]
    unfold solS misS dm bk
    omega
  unfold salesI
  rw [es, stock_is h, end_is h, e2]
  unfold thrS
  congr 1
  congr 1
  · unfold solS dm; omega
  · congr 1
    unfold bk
    omega
theorem misS_le (h : CoM bs ds ks) (t : Nat) : misS bs ds ks (t + bs.length) ≤ misS bs ds ks t := by
  have z := dayS_le h t
  unfold misS dm bk
  rw [Nat.add_mod_right]
  omega
/-- behind the first round each round misses the same -/
theorem misS_round (h : CoM bs ds ks) {t : Nat} (ht : bs.length ≤ t) : misS bs ds ks (t + bs.length) = misS bs ds ks t := by
  have z := misS_le h t
  have m0 : 0 ≤ misS bs ds ks (t + bs.length) := by unfold misS; omega
  by_cases hm : misS bs ds ks t ≤ 0
  · omega
  · obtain ⟨u, rfl⟩ : ∃ u, t = u + bs.length := ⟨t - bs.length, by omega⟩
    have e1 : dayS bs ds ks (u + bs.length + 1) = 0 := by
      show stp _ _ _ _ = 0
      have := h.kn ((u + bs.length) % bs.length)
      unfold misS dm bk at hm
      unfold stp
      omega
    have e2 := dayS_le h (u + 1)
    have e3 := dayS_nn h (u + 1)
    rw [show u + 1 + bs.length = u + bs.length + 1 by omega, e1] at e2
    have e4 : dayS bs ds ks (u + 1) = dayS bs ds ks (u + 1 + bs.length) := by rw [show u + 1 + bs.length = u + bs.length + 1 by omega, e1]; omega
    have hn := h.gd.n0
    have e5 := dayS_same e4 (bs.length - 1)
    rw [show u + 1 + (bs.length - 1) = u + bs.length by omega] at e5
    unfold misS dm bk
    rw [Nat.add_mod_right, ← e5]
theorem fm_get (h : CoM bs ds ks) {j : Nat} (hj : j < bs.length) : (fmOf bs ds ks).getD j 0 = misS bs ds ks j := by
  unfold fmOf missL
  have hl := h.gd.ld
  have e : ((List.range ds.length).map fun i => max 0 (ds.getD i 0 - (stkL bs ds ks (start1 (gainOf bs ds) (firstOf bs ds ks) (fullOf bs ds ks) 0)).getD i 0 - bs.getD i 0)).getD j 0 =
      max 0 (ds.getD j 0 - (stkL bs ds ks (start1 (gainOf bs ds) (firstOf bs ds ks) (fullOf bs ds ks) 0)).getD j 0 - bs.getD j 0) := by
    simp [List.getD, List.getElem?_range (show j < ds.length by omega)]
  rw [e, stkL_get (by omega)]
  have q := dayS_round h 0 j (by omega)
  rw [Nat.zero_mul, Nat.zero_add] at q
  have q' : stkAt bs ds ks (start1 (gainOf bs ds) (firstOf bs ds ks) (fullOf bs ds ks) 0) j = dayS bs ds ks j := q.symm
  rw [q']
  unfold misS dm bk
  rw [Nat.mod_eq_of_lt hj]
theorem lm_get (h : CoM bs ds ks) {j : Nat} (hj : j < bs.length) : (lmOf bs ds ks).getD j 0 = misS bs ds ks (bs.length + j) := by
  unfold lmOf missL
  have hl := h.gd.ld
  have e : ((List.range ds.length).map fun i => max 0 (ds.getD i 0 - (stkL bs ds ks (start1 (gainOf bs ds) (firstOf bs ds ks) (fullOf bs ds ks) 1)).getD i 0 - bs.getD i 0)).getD j 0 =
      max 0 (ds.getD j 0 - (stkL bs ds ks (start1 (gainOf bs ds) (firstOf bs ds ks) (fullOf bs ds ks) 1)).getD j 0 - bs.getD j 0) := by
    simp [List.getD, List.getElem?_range (show j < ds.length by omega)]
  rw [e, stkL_get (by omega)]
  have q := dayS_round h 1 j (by omega)
  rw [Nat.one_mul] at q
  have q' : stkAt bs ds ks (start1 (gainOf bs ds) (firstOf bs ds ks) (fullOf bs ds ks) 1) j = dayS bs ds ks (bs.length + j) := q.symm
  rw [q']
  unfold misS dm bk
  rw [Nat.add_mod_left, Nat.mod_eq_of_lt hj]
theorem fm_len (h : CoM bs ds ks) : (fmOf bs ds ks).length = bs.length := by unfold fmOf; rw [missL_len]; exact h.gd.ld
theorem lm_len (h : CoM bs ds ks) : (lmOf bs ds ks).length = bs.length := by unfold lmOf; rw [missL_len]; exact h.gd.ld
theorem lm_sum (h : CoM bs ds ks) : (lmOf bs ds ks).sum = psum (fun j => misS bs ds ks (bs.length + j)) bs.length := by
  rw [← psum_sum, lm_len h]
  exact psum_congr fun j hj => lm_get h hj
theorem missed_is (h : CoM bs ds ks) (t : Nat) : missedI bs (fmOf bs ds ks) (lmOf bs ds ks) (t : Int) = psum (misS bs ds ks) t := by
  have hn := h.gd.n0
  unfold missedI
  rw [Int.toNat_natCast, psum_take]
  by_cases ht : t ≤ bs.length
  · have e : max 0 ((t : Int) - (bs.length : Int)) = ((0 : Nat) : Int) := by omega
    rw [e, sumRep_psum _ (by rw [lm_len h]; exact hn)]
    show _ + 0 = _
    rw [Int.add_zero]
    exact psum_congr fun j hj => fm_get h (by omega)
  · obtain ⟨u, rfl⟩ : ∃ u, t = bs.length + u := ⟨t - bs.length, by omega⟩
    have e : max 0 (((bs.length + u : Nat) : Int) - (bs.length : Int)) = (u : Int) := by omega
    rw [e, sumRep_psum _ (by rw [lm_len h]; exact hn), psum_add, psum_add]
    have z1 : psum (fun j => (fmOf bs ds ks).getD j 0) bs.length = psum (misS bs ds ks) bs.length := psum_congr fun j hj => fm_get h hj
    have z2 : psum (fun j => (fmOf bs ds ks).getD (bs.length + j) 0) u = 0 := by
      have : psum (fun j => (fmOf bs ds ks).getD (bs.length + j) 0) u = psum (fun _ => 0) u := psum_congr fun j _ => by
        simp [List.getD, List.getElem?_eq_none (show (fmOf bs ds ks).length ≤ bs.length + j by rw [fm_len h]; omega)]
      rw [this, psum_zero]
    have z3 : psum (fun j => (lmOf bs ds ks).getD (j % (lmOf bs ds ks).length) 0) u = psum (fun j => misS bs ds ks (bs.length + j)) u := by
      refine psum_congr fun j _ => ?_
      rw [lm_len h, lm_get h (Nat.mod_lt _ hn)]
      have q : ∀ k r, misS bs ds ks (bs.length + (r + k * bs.length)) = misS bs ds ks (bs.length + r) := by
        intro k r
        induction k with
        | zero => simp
        | succ k ih =>
          rw [show bs.length + (r + (k + 1) * bs.length) = bs.length + (r + k * bs.length) + bs.length by rw [Nat.add_mul, Nat.one_mul]; omega, misS_round h (by omega), ih]
      have w := q (j / bs.length) (j % bs.length)
      rw [show j % bs.length + j / bs.length * bs.length = j by rw [Nat.mul_comm]; exact Nat.mod_add_div _ _] at w
      exact w.symm
    rw [z1, z2, z3]; omega
theorem bk_sum (h : CoM bs ds ks) (t : Nat) : sumRep bs (t : Int) = psum (bk bs) t := sumRep_psum bs h.gd.n0 t
theorem dm_sum (h : CoM bs ds ks) (t : Nat) : sumRep ds (t : Int) = psum (dm bs ds) t := by
  rw [sumRep_psum ds (by have := h.gd.n0; have := h.gd.ld; omega) t]
  exact psum_congr fun j _ => by unfold dm; rw [h.gd.ld]
theorem thr_sum (t : Nat) : psum (thrS bs ds ks) t = psum (bk bs) t - psum (solS bs ds ks) t - dayS bs ds ks t := by
  induction t with
  | zero => simp [psum, dayS]
  | succ t ih => show psum _ t + thrS bs ds ks t = (psum _ t + bk bs t) - (psum _ t + solS bs ds ks t) - _; rw [ih]; unfold thrS; omega
/-- totals are the sums of the days -/
theorem tot_is (h : CoM bs ds ks) (t : Nat) : totI bs ds ks (gainOf bs ds) (firstOf bs ds ks) (fullOf bs ds ks) (fmOf bs ds ks) (lmOf bs ds ks) (t : Int) =
    [psum (solS bs ds ks) t, psum (misS bs ds ks) t, psum (thrS bs ds ks) t] := by
  have e : psum (solS bs ds ks) t = psum (dm bs ds) t - psum (misS bs ds ks) t := psum_sub _ _ _
  unfold totI
  rw [missed_is h, dm_sum h, bk_sum h, stock_is h, thr_sum, e]
/-! ### the long run -/
theorem long_is (h : CoM bs ds ks) {D : Nat} (hD : ∀ t, D ≤ t → dayS bs ds ks t = dayS bs ds ks (t + bs.length)) :
    longI bs ds (lmOf bs ds ks) = [psum (fun j => solS bs ds ks (D + j)) bs.length, psum (fun j => misS bs ds ks (D + j)) bs.length, psum (fun j => thrS bs ds ks (D + j)) bs.length] := by
  have hmD : ∀ t, D ≤ t → misS bs ds ks (t + bs.length) = misS bs ds ks t := fun t ht => by
    unfold misS dm bk; rw [Nat.add_mod_right, ← hD t ht]
  have hmN : ∀ t, bs.length ≤ t → misS bs ds ks (t + bs.length) = misS bs ds ks t := fun t ht => misS_round h ht
  have m1 := window hmD bs.length
  have m2 := window hmN D
  rw [Nat.add_comm D] at m1
  have em : psum (fun j => misS bs ds ks (D + j)) bs.length = (lmOf bs ds ks).sum := by rw [lm_sum h, ← m1, ← m2]
  have hb : ∀ t, 0 ≤ t → bk bs (t + bs.length) = bk bs t := fun t _ => by unfold bk; rw [Nat.add_mod_right]
  have hd : ∀ t, 0 ≤ t → dm bs ds (t + bs.length) = dm bs ds t := fun t _ => by unfold dm; rw [Nat.add_mod_right]
  have b1 := window (n := bs.length) (a := 0) hb D
  have d1 := window (n := bs.length) (a := 0) hd D
  simp only [Nat.zero_add] at b1 d1
  have b2 : psum (fun j => bk bs j) bs.length = bs.sum := by rw [← psum_sum]; exact psum_congr fun j hj => by unfold bk; rw [Nat.mod_eq_of_lt hj]
  have d2 : psum (fun j => dm bs ds j) bs.length = ds.sum := by
    rw [← psum_sum, h.gd.ld]; exact psum_congr fun j hj => by unfold dm; rw [Nat.mod_eq_of_lt hj]
  have es : psum (fun j => solS bs ds ks (D + j)) bs.length = ds.sum - (lmOf bs ds ks).sum := by
    have : psum (fun j => solS bs ds ks (D + j)) bs.length = psum (fun j => dm bs ds (D + j)) bs.length - psum (fun j => misS bs ds ks (D + j)) bs.length := psum_sub _ _ _
    rw [this, em, d1, d2]
  have et : psum (fun j => thrS bs ds ks (D + j)) bs.length = bs.sum - (ds.sum - (lmOf bs ds ks).sum) := by
    have t1 := psum_add (thrS bs ds ks) D bs.length
    rw [thr_sum, thr_sum, psum_add, psum_add] at t1
    rw [← hD D (Nat.le_refl _), es, b1, b2] at t1
    omega
  unfold longI
  rw [em, es, et]
end
end Sw
namespace Sw
open PySem PySem.Spec PyProof.Rows L2 Evl
local macro_rules | `(tactic| walk_at "ev") => `(tactic| first
  | exact ev_c
  | exact ev_var rfl
  | ((with_reducible show Ev (tCB rMax2 _) _ _ _); exact ev_maxi (by walk_at "ev") (by walk_at "ev"))
  | ((with_reducible show Ev (tCB rMn _) _ _ _); exact ev_min2 (by walk_at "ev") (by walk_at "ev"))
  | ((with_reducible show Ev (tUn _ _) _ _ _); exact ev_un (by walk_at "ev") ru_neg)
  | ((with_reducible show Ev (tFld _ _ _) _ _ _); exact ev_fldK (by walk_at "ev") (by assumption))
  | ((with_reducible show Ev (tOp (rI0 _) _ _) _ _ _); exact ev_op (by walk_at "ev") (by walk_at "ev") rv_I0)
  | ((with_reducible show Ev (tOp rEq _ _) _ _ _); exact ev_op (by walk_at "ev") (by walk_at "ev") (rv_eq rfl))
  | ((with_reducible show Ev (tOp rNe _ _) _ _ _); exact ev_op (by walk_at "ev") (by walk_at "ev") (rv_ne rfl)))

section
variable {K : PySem.W.Frag} {σ : L2.St} {H H' : Hp} {ta tb te tx : TE} {x y z v : V} {a c : Addr} {xs : List V}
theorem ev_cval {C : Addr} {mc u : Value} {f : Str} (h : Ev ta σ H (.ref C)) (hc : ClX.CRead K C mc) (cv : ClX.CVal K C mc f v u) : Ev (ClX.tCVal K ta f) σ H v := fun H1 e Q q =>
  h H1 e _ fun H2 e2 => ⟨C, mc, v, u, rfl, hc, cv, q H2 e2⟩
def rTupS (K : PySem.W.Frag) : List V → Hp → VK → Prop := fun xs H Q => ∃ p ys, xs = [.ref p] ∧ ((SqL K H p ys ∧ ∀ l, H l = none → Q (.ref l) (upd H l (.tup ys))) ∨ (SqT K H p ys ∧ Q (.ref p) H))
theorem ev_tupT (h : Ev ta σ H (.ref a)) (hx : SqT K H a xs) : Ev (tCB (rTupS K) (tCons ta tNil)) σ H (.ref a) := fun H1 e Q q =>
  h H1 e _ fun H2 e2 => ⟨a, xs, rfl, .inr ⟨ex_t (e.trans e2) hx, q H2 e2⟩⟩
theorem eu_tupL (h : EvL ta σ H xs) : EvU (tCB (rTupS K) (tCons ta tNil)) σ H xs := fun H1 e Q q =>
  h H1 e _ fun p H2 _ e2 h2 => ⟨p, xs, rfl, .inl ⟨sq_of h2, fun l hl => q l _ (fresh_back e2 hl) (e2.trans (Ex.new hl)) upd_same⟩⟩
/-- what is handed back is some new object with P, seen apart from what M names -/
def EvR (te : TE) (σ : L2.St) (H : Hp) (M : Addr → Prop) (P : Addr → Hp → Prop) : Prop := ∀ H1, Ex H H1 → (∀ b, M b → H1 b ≠ none) → ∀ Q : VK, (∀ p H2, H1 p = none → Ex H1 H2 → P p (wn H2 M) → Q (.ref p) H2) → te σ H1 Q
end
theorem q_selfR {K : PySem.W.Frag} {σ : L2.St} {H : Hp} {ta te : TE} {a C dx : Addr} {fs : List (Str × V)} {f : Str} {D : Ends} {tz : TS} {M : Addr → Prop} {Pr : Addr → Hp → Prop} (ha : M a) (kn : ∀ b, M b → H b ≠ none) (h : EvR te σ H M Pr) (ho : ∀ H1, Ex H H1 → Ev ta σ H1 (.ref a)) (hx : H a = some (.ins C dx fs)) (c : Cls K C) (n : NoAttr K C f) (hl : fs.length < 1000)
    (hm : ∀ p H1 H2, Ex H1 H2 → Pr p H1 → Pr p H2)
    (k : ∀ (p : Addr) (S : Hp), Pr p (wn S M) → S a = some (.ins C dx (putF f (.ref p) fs)) → Go M a H S → tz D σ S) : tSeq (sFld K ta te f) tz D σ H :=
  h H (Ex.refl H) kn _ fun p H1 hp e1 hP => ho H1 e1 H1 (Ex.refl H1) _ fun H2 e2 => ⟨a, C, dx, fs, rfl, e2 _ _ (e1 _ _ hx), c, n, hl,
    k p _ (hm _ _ _ ((wn_mono e2).trans (wn_upd ha)) hP) upd_same (Go.up ha kn (e1.trans e2))⟩
/-! ### the checks, where nothing is wrong -/
variable {P : Program} {w : World} {K : PySem.W.Frag} {mg : Str → Option Value} {base : Heap} {Z : Ad}
def sp_num : Sp := fun vs H Q _ => ∃ n lo hi : Int, vs = [.int n, .int lo, .int hi] ∧ lo ≤ n ∧ n ≤ hi ∧ RetV .non H Q
theorem spv_num {H : Hp} {n lo hi : Int} (h1 : lo ≤ n) (h2 : n ≤ hi) : SpV sp_num [.int n, .int lo, .int hi] H .non := fun _ _ _ q _ => ⟨n, lo, hi, rfl, h1, h2, q⟩
theorem ok_check_number (T : Txt K mg Z) : FnOk P w K mg base CX0 1 Z.f_check_number Z.d_check_number p_check_number sp_num := by
  refine T.F_check_number.ok sc_check_number (fun vs H Q E h => ?_) (fun cdv Ar outer s H vs Q E hr h => ?_)
  · obtain ⟨n, lo, hi, rfl, _⟩ := h
    rfl
  · obtain ⟨n, lo, hi, rfl, h1, h2, k⟩ := h
    refine ⟨_, (pss_one (ps_if (PW.pt (pw_or (pt_cmpR op_lt (pv 0) (pv 1) (nomark _)) (pw_or1 (pt_cmpR op_gt (pv 0) (pv 2) (nomark _))))) (pss_one ps_no) pss_nil)), ?_⟩
    refine s_when (b := false) (et_is (et_or (et_test (by walk_at "ev")) fun _ => et_test (by walk_at "ev")) (by simp; omega)) (fun hb => nomatch hb) fun _ H1 e1 => k H1 e1
def sp_amounts (K : PySem.W.Frag) : Sp := fun vs H Q _ => ∃ (s : Str) (a : Addr) (am : List Int), vs = [.str s, .ref a] ∧ SqT K H a (am.map V.int) ∧ am.length ≤ 24 ∧ (∀ x ∈ am, 0 ≤ x ∧ x ≤ 1000000000) ∧ RetV .non H Q
theorem spv_amounts {H : Hp} {s : Str} {a : Addr} {am : List Int} (h : SqT K H a (am.map V.int)) (h1 : am.length ≤ 24) (h2 : ∀ x ∈ am, 0 ≤ x ∧ x ≤ 1000000000) : SpV (sp_amounts K) [.str s, .ref a] H .non := fun _ e _ q _ => ⟨s, a, am, rfl, ex_t e h, h1, h2, q⟩
theorem ok_check_amounts (T : Txt K mg Z) : FnOk P w K mg base CX0 1 Z.f_check_amounts Z.d_check_amounts p_check_amounts (sp_amounts K) := by
  refine T.F_check_amounts.ok sc_check_amounts (fun vs H Q E h => ?_) (fun cdv Ar outer s H vs Q E hr h => ?_)
  · obtain ⟨s, a, am, rfl, _⟩ := h
    rfl
  · obtain ⟨s, a, am, rfl, hS, hl, hb, k⟩ := h
    obtain ⟨cr, u, cv⟩ := T.cv_Bakery_MAX_DAYS
    refine ⟨_, (pss_one (ps_for PassesOwn.never rfl (pi_enumTK K rfl (by rfl) T.b_enumerate (pa_cons (pv 1) pa_nil)) (by exact (pg_tupK K (n := 2) rfl rfl (pgs_cons (pg_name (i := 2) sc_check_amounts.nd rfl (Or.inl rfl)) (pgs_cons (pg_name (i := 3) sc_check_amounts.nd rfl (Or.inl rfl)) pgs_nil)))) (pss_one (ps_if (PW.pt (pw_or (pt_cmpR op_eq (pv 2) (ClX.pe_cval (pe_glob (v := .ref Z.c_Bakery) (by rfl) T.g_Bakery rfl) rfl) (nomark _)) (pw_or (pt_cmpR op_lt (pv 3) pe_int (nomark _)) (pw_or1 (pt_cmpR op_gt (pv 3) (pe_glob (v := .int 1000000000) (by rfl) T.g_MOST_LOAVES ⟨_, rfl⟩) (nomark _)))))) (pss_one ps_no) pss_nil)))), ?_⟩
    refine s_forEnT (ea_cons (ev_var rfl) ea_nil) hS (fun i σ' H' => (∃ x y, σ' = [some (.str s), some (.ref a), x, y]) ∧ Ex H H') (fun H1 e1 => ⟨⟨_, _, rfl⟩, e1⟩) (fun i σ' H' _ p => p.2) ?_ ?_
    · rintro i x σ' H' hx ⟨⟨_, _, rfl⟩, e1⟩ H2 e2
      obtain ⟨rfl, hi⟩ := at_map hx
      have hb' := getD_mem0 (i := i) hb
      refine s_when (b := false) (et_is (et_or (et_test (ev_op (ev_var rfl) (ev_cval ev_c cr cv) (rv_eq rfl))) fun _ => et_or (et_test (by walk_at "ev")) fun _ => et_test (by walk_at "ev")) ?_) (fun hb => nomatch hb) fun _ H3 e3 => ⟨⟨_, _, rfl⟩, (e1.trans e2).trans e3⟩
      have q : ¬ (V.int (i : Nat) = V.int 24) := fun z => by injection z with z; omega
      generalize am.getD i 0 = v at hb'
      simp [q]; omega
    · rintro σ' H' ⟨⟨_, _, rfl⟩, e1⟩
      exact k H' e1
def sp_life1 : Sp := fun vs H Q _ => ∃ life : Int, vs = [.int life] ∧ 1 ≤ life ∧ life ≤ 30 ∧ RetV .non H Q
theorem spv_life {H : Hp} {life : Int} (l0 : 1 ≤ life) (l1 : life ≤ 30) : SpV sp_life1 [.int life] H .non := fun _ e _ q _ => ⟨life, rfl, l0, l1, q⟩
theorem ok_check_life (T : Txt K mg Z) : FnOk P w K mg base CX0 1 Z.f_check_life Z.d_check_life p_check_life sp_life1 := by
  refine T.F_check_life.ok sc_check_life (fun vs H Q E h => ?_) (fun cdv Ar outer s H vs Q E hr h => ?_)
  · obtain ⟨life, rfl, _⟩ := h
    rfl
  · obtain ⟨life, rfl, l0, l1, k⟩ := h
    obtain ⟨cr, u, cv⟩ := T.cv_Bakery_MAX_LIFE
    refine ⟨_, (pss_one (ps_if (PW.pt (pw_or (pt_cmpR op_lt (pv 0) pe_int (nomark _)) (pw_or1 (pt_cmpR op_gt (pv 0) (ClX.pe_cval (pe_glob (v := .ref Z.c_Bakery) (by rfl) T.g_Bakery rfl) rfl) (nomark _))))) (pss_one ps_no) pss_nil)), ?_⟩
    refine s_when (b := false) (et_is (et_or (et_test (by walk_at "ev")) fun _ => et_test (ev_op (ev_var rfl) (ev_cval ev_c cr cv) rv_I0)) (by simp; omega)) (fun hb => nomatch hb) fun _ H5 e5 => k H5 e5
def sp_check (K : PySem.W.Frag) : Sp := fun vs H Q _ => ∃ (a b : Addr) (bs ds : List Int) (life : Int), vs = [.ref a, .ref b, .int life] ∧ SqT K H a (bs.map V.int) ∧ SqT K H b (ds.map V.int) ∧ Good bs ds ∧ 1 ≤ life ∧ life ≤ 30 ∧ RetV .non H Q
theorem ok_check_bakery (T : Txt K mg Z) : FnOk P w K mg base CX0 2 Z.f_check_bakery Z.d_check_bakery p_check_bakery (sp_check K) := by
  refine T.F_check_bakery.ok sc_check_bakery (fun vs H Q E h => ?_) (fun cdv Ar outer s H vs Q E hr h => ?_)
  · obtain ⟨a, b, bs, ds, life, rfl, _⟩ := h
    rfl
  · obtain ⟨a, b, bs, ds, life, rfl, hB, hD, gd, l0, l1, k⟩ := h
    have h0 := gd.n0
    have hn := gd.n1
    have hld := gd.ld
    have e24 : ((bs.map V.int).length : Int) = (bs.length : Int) := by rw [List.length_map]
    have e24' : ((ds.map V.int).length : Int) = (ds.length : Int) := by rw [List.length_map]
    refine ⟨_, (pss_cons (ps_expr (pe_call (ok_check_amounts T) (hr.mono (by decide)) (by rfl) T.g_check_amounts T.F_check_amounts.kp T.b_check_amounts .nil pass0 (pa_cons pe_str (pa_cons (pv 0) pa_nil))))
      (pss_cons (ps_if (pt_cmpR op_eq (pe_callB (r := rLenS K) (call_len_seq) (by rfl) T.b_len boot_len (pa_cons (pv 0) pa_nil)) pe_int (nomark _)) (pss_one ps_no) pss_nil)
      (pss_cons (ps_expr (pe_call (ok_check_amounts T) (hr.mono (by decide)) (by rfl) T.g_check_amounts T.F_check_amounts.kp T.b_check_amounts .nil pass0 (pa_cons pe_str (pa_cons (pv 1) pa_nil))))
      (pss_cons (ps_if (pt_cmpR op_ne (pe_callB (r := rLenS K) (call_len_seq) (by rfl) T.b_len boot_len (pa_cons (pv 1) pa_nil)) (pe_callB (r := rLenS K) (call_len_seq) (by rfl) T.b_len boot_len (pa_cons (pv 0) pa_nil)) (nomark _)) (pss_one ps_no) pss_nil)
      (pss_one (ps_expr (pe_call (ok_check_life T) (hr.mono (by decide)) (by rfl) T.g_check_life T.F_check_life.kp T.b_check_life .nil pass0 (pa_cons (pv 2) pa_nil)))))))), ?_⟩
    refine q_drop (ev_call (ea_cons ev_c (ea_cons (ev_var rfl) ea_nil)) (spv_amounts hB (by omega) gd.b0)) fun H1 e1 => ?_
    refine q_when (b := false) (et_is (et_test (ev_op (Ev.int_eq (ev_lenT (ev_var rfl) (ex_t e1 hB)) e24) ev_c (rv_eq rfl))) ?_) (fun hb => nomatch hb) fun _ H2 e2 => ?_
    · have q : ¬ (V.int (bs.length : Int) = V.int 0) := fun z => by injection z with z; omega
      simp [q]
    refine q_drop (ev_call (ea_cons ev_c (ea_cons (ev_var rfl) ea_nil)) (spv_amounts (ex_t (e1.trans e2) hD) (by omega) gd.d0)) fun H3 e3 => ?_
    have eA := (e1.trans e2).trans e3
    refine q_when (b := false) (et_is (et_test (ev_op (Ev.int_eq (ev_lenT (ev_var rfl) (ex_t eA hD)) e24') (Ev.int_eq (ev_lenT (ev_var rfl) (ex_t eA hB)) e24) (rv_ne rfl))) ?_) (fun hb => nomatch hb) fun _ H4 e4 => ?_
    · have q : V.int (ds.length : Int) = V.int (bs.length : Int) := by rw [hld]
      simp [q]
    exact s_drop (ev_call (ea_cons (ev_var rfl) ea_nil) (spv_life l0 l1)) fun H5 e5 => k H5 ((eA.trans e4).trans e5)
/-! ### the bakery -/
def bakMeths : List Str := ["with_life", "baking_more", "stock", "sold", "missed", "thrown", "totals", "shelf", "MAX_LIFE"]
/-- a bakery -/
structure BakAt (K : PySem.W.Frag) (Z : Ad) (H : Hp) (b : Addr) (bs ds : List Int) (life : Int) (i : Nat) : Prop where
  fb : ∃ tb, FlK K H b Z.c_Bakery "_bakes" (.ref tb) ∧ SqT K H tb (bs.map V.int)
  fd : ∃ td, FlK K H b Z.c_Bakery "_demands" (.ref td) ∧ SqT K H td (ds.map V.int)
  fl : FlK K H b Z.c_Bakery "_life" (.int life)
  fc : ∃ c, FlK K H b Z.c_Bakery "course" (.ref c) ∧ CoAt K Z H c bs ds (keepL bs life)
  fs : FlK K H b Z.c_Bakery "_settled_day" (.int (grw bs ds (keepL bs life) * (bs.length : Int) + (i : Int)))
  fr : ∃ tl, FlK K H b Z.c_Bakery "_long_run" (.ref tl) ∧ SqT K H tl ((longI bs ds (lmOf bs ds (keepL bs life))).map V.int)
  gd : Good bs ds
  l0 : 1 ≤ life
  l1 : life ≤ 30
  hi : SetAt bs ds (keepL bs life) (gainOf bs ds) (firstOf bs ds (keepL bs life)) (fullOf bs ds (keepL bs life)) i
  nf : ∀ m : Str, m ∈ bakMeths → NoF H b Z.c_Bakery m
theorem BakAt.mono {H H' : Hp} {b : Addr} {bs ds : List Int} {life : Int} {i : Nat} (e : Ex H H') (h : BakAt K Z H b bs ds life i) : BakAt K Z H' b bs ds life i :=
  ⟨let ⟨a, x, y⟩ := h.fb; ⟨a, x.mono e, ex_t e y⟩, let ⟨a, x, y⟩ := h.fd; ⟨a, x.mono e, ex_t e y⟩, h.fl.mono e, let ⟨a, x, y⟩ := h.fc; ⟨a, x.mono e, CO.mono e y⟩, h.fs.mono e, let ⟨a, x, y⟩ := h.fr; ⟨a, x.mono e, ex_t e y⟩, h.gd, h.l0, h.l1, h.hi, fun m hm => (h.nf m hm).mono e⟩
theorem BakAt.com {H : Hp} {b : Addr} {bs ds : List Int} {life : Int} {i : Nat} (h : BakAt K Z H b bs ds life i) : CoM bs ds (keepL bs life) := ⟨h.gd, keepL_len, fun _ => keepL_nn h.gd.b0⟩
theorem BakAt.inst {H : Hp} {b : Addr} {bs ds : List Int} {life : Int} {i : Nat} (h : BakAt K Z H b bs ds life i) : ∃ dx fs, H b = some (.ins Z.c_Bakery dx fs) := let ⟨dx, fs, x, _⟩ := h.fl.fl; ⟨dx, fs, x⟩
/-- Course(..) -/
theorem er_course {σ : L2.St} {H : Hp} {M : Addr → Prop} {t : TA} {tb td : Addr} {bs ds : List Int} {life : Int} {E : XK} (ht : EvA t σ H [.ref tb, .ref td, .int life]) (hb : SqT K (wn H M) tb (bs.map V.int)) (hd : SqT K (wn H M) td (ds.map V.int)) (gd : Good bs ds) (l0 : 1 ≤ life) (l1 : life ≤ 30) :
    EvR (tMake Z.c_Course (sp_Cinit K Z) [] E t) σ H M (fun c H' => CoAt K Z H' c bs ds (keepL bs life)) := fun H1 e1 kn Q q => ht H1 e1 _ fun H2 e2 x dx hx hdx hne => by
  have eN : Ex H2 (upd (upd H2 dx (.own x)) x (.ins Z.c_Course dx [])) := fun b o hbo => by
    rw [upd_ne (ne_of_none hbo hx), upd_ne (ne_of_none hbo hdx)]; exact hbo
  have kn2 : ∀ b, M b → H2 b ≠ none := fun b hb z => kn b hb (fresh_back e2 z)
  refine ⟨x, dx, tb, td, bs, ds, life, M, rfl, upd_same, ex_t (wn_mono ((e1.trans e2).trans eN)) hb, ex_t (wn_mono ((e1.trans e2).trans eN)) hd, gd, l0, l1, fun b hb z => kn2 b hb (fresh_back eN z), fun z => kn2 x z hx, fun H3 hC k => ⟨rfl, ?_⟩⟩
  refine q x H3 (fresh_back e2 hx) (e2.trans fun b o hbo => k b o (eN b o hbo) (ne_of_none hbo hx)) hC
def sp_Binit (K : PySem.W.Frag) (Z : Ad) : Sp := fun vs H Q _ => ∃ (x dx tb td : Addr) (bs ds : List Int) (life : Int) (N : Addr → Prop), vs = [.ref x, .ref tb, .ref td, .int life] ∧ H x = some (.ins Z.c_Bakery dx []) ∧
  SqT K (wn H N) tb (bs.map V.int) ∧ SqT K (wn H N) td (ds.map V.int) ∧ Good bs ds ∧ 1 ≤ life ∧ life ≤ 30 ∧
  (∀ b, N b → H b ≠ none) ∧ ¬ N x ∧ ∀ H' i, BakAt K Z (wn H' N) x bs ds life i → (∀ b o, H b = some o → b ≠ x → H' b = some o) → Q .non H'
theorem er_bakery {σ : L2.St} {H : Hp} {M : Addr → Prop} {t : TA} {tb td : Addr} {bs ds : List Int} {life : Int} {E : XK} (ht : EvA t σ H [.ref tb, .ref td, .int life]) (hb : SqT K (wn H M) tb (bs.map V.int)) (hd : SqT K (wn H M) td (ds.map V.int)) (gd : Good bs ds) (l0 : 1 ≤ life) (l1 : life ≤ 30) :
    EvR (tMake Z.c_Bakery (sp_Binit K Z) [] E t) σ H M (fun c H' => ∃ i, BakAt K Z H' c bs ds life i) := fun H1 e1 kn Q q => ht H1 e1 _ fun H2 e2 x dx hx hdx hne => by
  have eN : Ex H2 (upd (upd H2 dx (.own x)) x (.ins Z.c_Bakery dx [])) := fun b o hbo => by
    rw [upd_ne (ne_of_none hbo hx), upd_ne (ne_of_none hbo hdx)]; exact hbo
  have kn2 : ∀ b, M b → H2 b ≠ none := fun b hb z => kn b hb (fresh_back e2 z)
  refine ⟨x, dx, tb, td, bs, ds, life, M, rfl, upd_same, ex_t (wn_mono ((e1.trans e2).trans eN)) hb, ex_t (wn_mono ((e1.trans e2).trans eN)) hd, gd, l0, l1, fun b hb z => kn2 b hb (fresh_back eN z), fun z => kn2 x z hx, fun H3 i hC k => ⟨rfl, ?_⟩⟩
  refine q x H3 (fresh_back e2 hx) (e2.trans fun b o hbo => k b o (eN b o hbo) (ne_of_none hbo hx)) ⟨i, hC⟩
theorem ok_Bakery___init__ (T : Txt K mg Z) : FnOk P w K mg base CX0 6 Z.f_Bakery___init__ Z.d_Bakery___init__ p_Bakery___init__ (sp_Binit K Z) := by
  refine T.F_Bakery___init__.ok sc_Bakery___init__ (fun vs H Q E h => ?_) (fun cdv Ar outer s H vs Q E hr h => ?_)
  · obtain ⟨x, dx, tb, td, bs, ds, life, N, rfl, _⟩ := h
    rfl
  · obtain ⟨x, dx, tb, td, bs, ds, life, N, rfl, hx, hb, hd, gd, l0, l1, hN, nNx, k⟩ := h
    have hM : nx x N x := .inl rfl
    have cl := T.cl_Bakery
    have cm : CoM bs ds (keepL bs life) := ⟨gd, keepL_len, fun _ => keepL_nn gd.b0⟩
    obtain ⟨i, hi⟩ := set_ex cm
    refine ⟨_, (pss_cons (ps_expr (pe_call (ok_check_bakery T) (hr.mono (by decide)) (by rfl) T.g_check_bakery T.F_check_bakery.kp T.b_check_bakery .nil pass0 (pa_cons (pv 1) (pa_cons (pv 2) (pa_cons (pv 3) pa_nil)))))
      (pss_cons (ps_fld (pv 0) (pe_callTy (r := rTupS K) (call_tuple_of) (by rfl) T.b_tuple boot_tuple (pa_cons (pv 1) pa_nil)) rfl)
      (pss_cons (ps_fld (pv 0) (pe_callTy (r := rTupS K) (call_tuple_of) (by rfl) T.b_tuple boot_tuple (pa_cons (pv 2) pa_nil)) rfl)
      (pss_cons (ps_fld (pv 0) (pv 3) rfl)
      (pss_cons (ps_fld (pv 0) (pe_make T.mk_Course (ok_Course___init__ T) (hr.mono (by decide)) (by rfl) T.g_Course T.b_Course___init__ .nil pass0 (pa_cons (pe_fldK K rfl (pv 0) rfl) (pa_cons (pe_fldK K rfl (pv 0) rfl) (pa_cons (pv 3) pa_nil)))) rfl)
      (pss_cons (ps_fld (pv 0) (pe_meth0 (pe_fldK K rfl (pv 0) rfl) T.cl_Course T.m_Course_find_settled (ok_Course_find_settled T) (hr.mono (by decide)) T.b_Course_find_settled .nil pass0) rfl)
      (pss_one (ps_fld (pv 0) (pe_meth0 (pe_fldK K rfl (pv 0) rfl) T.cl_Course T.m_Course_sum_settled_round (ok_Course_sum_settled_round T) (hr.mono (by decide)) T.b_Course_sum_settled_round .nil pass0) rfl)))))))), ?_⟩
    refine q_drop (ev_call (ea_cons (ev_var rfl) (ea_cons (ev_var rfl) (ea_cons (ev_var rfl) ea_nil))) (fun _ e _ q _ => ⟨tb, td, bs, ds, life, rfl, ex_t (wn_ex.trans e) hb, ex_t (wn_ex.trans e) hd, gd, l0, l1, q⟩)) fun H0 e0 => ?_
    have hbw : SqT K (wn H (nx x N)) tb (bs.map V.int) := wn_tx hx hb
    have hdw : SqT K (wn H (nx x N)) td (ds.map V.int) := wn_tx hx hd
    have w0 : Ex (wn H (nx x N)) (wn H0 (nx x N)) := wn_mono e0
    have kn0 : ∀ b, nx x N b → H0 b ≠ none := fun b z q => z.elim (fun e => by rw [e, e0 _ _ hx] at q; cases q) fun e => hN b e (fresh_back e0 q)
    refine q_self hM kn0 (ev_tupT (ev_var rfl) (ex_t (wn_ex.trans e0) hb)) (fun _ _ => ev_var rfl) (e0 _ _ hx) cl T.na_Bakery__bakes (by decide) fun S1 x1 g1 => ?_
    refine q_self hM g1.kn (ev_tupT (ev_var rfl) (ex_t ((w0.trans g1.ex).trans wn_ex) hdw)) (fun _ _ => ev_var rfl) x1 cl T.na_Bakery__demands (by show 1 < 1000; decide) fun S2 x2 g2 => ?_
    refine q_self hM g2.kn (ev_var rfl) (fun _ _ => ev_var rfl) x2 cl T.na_Bakery__life (by show 2 < 1000; decide) fun S3 x3 g3 => ?_
    have w03 := ((w0.trans g1.ex).trans g2.ex).trans g3.ex
    have fb3 := flk_of x3 cl T.na_Bakery__bakes (show _ = some (V.ref tb) from rfl)
    have fd3 := flk_of x3 cl T.na_Bakery__demands (show _ = some (V.ref td) from rfl)
    -- course
    refine q_selfR hM g3.kn (er_course (ea_cons (by walk_at "ev") (ea_cons (by walk_at "ev") (ea_cons (ev_var rfl) ea_nil))) (ex_t w03 hbw) (ex_t w03 hdw) gd l0 l1) (fun _ _ => ev_var rfl) x3 cl T.na_Bakery_course (by show 3 < 1000; decide)
      (fun p H1 H2 e hP => CO.mono e hP) fun c S4 c4 x4 g4 => ?_
    -- _settled_day
    have fc4 := flk_of x4 cl T.na_Bakery_course (show _ = some (V.ref c) from rfl)
    have fsr : ∀ {S : Hp}, CoAt K Z S c bs ds (keepL bs life) → SpV (sp_settled K Z) [.ref c] S (.int (grw bs ds (keepL bs life) * (bs.length : Int) + (i : Int))) := fun hC _ e _ q _ => by
      obtain ⟨tb', td', tk', s⟩ := hC.sr
      exact ⟨c, bs, ds, keepL bs life, tb', td', tk', _, _, _, i, rfl, ⟨s.mono e, (hC.nf _ (by decide)).mono e⟩, cm.gainb.1, hi, q⟩
    refine q_self hM g4.kn (ev_meth (by walk_at "ev") ((CO.mono wn_ex c4).nf _ (by decide)) ea_nil (fsr (CO.mono wn_ex c4))) (fun _ _ => ev_var rfl) x4 cl T.na_Bakery__settled_day (by show 4 < 1000; decide) fun S5 x5 g5 => ?_
    have fc5 := flk_of x5 cl T.na_Bakery_course (show _ = some (V.ref c) from rfl)
    have c5 : CoAt K Z (wn S5 (nx x N)) c bs ds (keepL bs life) := CO.mono g5.ex c4
    refine q_selfU hM g5.kn (xs := (longI bs ds (lmOf bs ds (keepL bs life))).map V.int) (eu_meth (by walk_at "ev") ((CO.mono wn_ex c5).nf _ (by decide)) ea_nil (fun _ e _ q _ => ⟨c, bs, ds, keepL bs life, _, _, _, _, _, rfl, CO.mono e (CO.mono wn_ex c5), q⟩)) (fun _ _ => ev_var rfl) x5 cl T.na_Bakery__long_run (by show 5 < 1000; decide) fun tl S6 hl6 x6 g6 => ?_
    have w06 := ((w03.trans g4.ex).trans g5.ex).trans g6.ex
    have sb : ∀ {S : Hp}, Ex (wn S (nx x N)) (wn S N) := wn_sub fun b z => .inr z
    have y6 : wn S6 N x = _ := (wn_ni nNx).trans x6
    refine k S6 i ⟨⟨tb, flk_of y6 cl T.na_Bakery__bakes rfl, ex_t (w06.trans sb) hbw⟩, ⟨td, flk_of y6 cl T.na_Bakery__demands rfl, ex_t (w06.trans sb) hdw⟩, flk_of y6 cl T.na_Bakery__life rfl, ⟨c, flk_of y6 cl T.na_Bakery_course rfl, CO.mono (g6.ex.trans sb) c5⟩,
      flk_of y6 cl T.na_Bakery__settled_day rfl, ⟨tl, flk_of y6 cl T.na_Bakery__long_run rfl, ex_t sb hl6⟩, gd, l0, l1, hi, ?_⟩ fun b o hbo hne => ?_
    · intro m hm
      refine ⟨_, _, y6, ?_⟩
      simp only [bakMeths, List.mem_cons, List.not_mem_nil, or_false] at hm
      rcases hm with rfl | rfl | rfl | rfl | rfl | rfl | rfl | rfl | rfl <;> rfl
    · exact g6.al b o (g5.al b o (g4.al b o (g3.al b o (g2.al b o (g1.al b o (e0 b o hbo) hne) hne) hne) hne) hne) hne
/-! ### a bakery's methods -/
theorem ev_prop {σ : L2.St} {H : Hp} {ta : TE} {C a : Addr} {sp : Sp} {E : XK} {z : V} (h : Ev ta σ H (.ref a)) (hi : ∃ dx fs, H a = some (.ins C dx fs)) (hs : SpV sp [.ref a] H z) : Ev (tProp C sp [] E ta) σ H z := fun H1 e Q q =>
  h H1 e _ fun H2 e2 => let ⟨dx, fs, h1⟩ := hi; ⟨a, dx, fs, rfl, e2 _ _ (e _ _ h1), hs H2 (e.trans e2) Q (fun H3 e3 => q H3 (e2.trans e3)) E⟩
def sp_Bset (K : PySem.W.Frag) (Z : Ad) : Sp := fun vs H Q _ => ∃ (b : Addr) (bs ds : List Int) (life : Int) (i : Nat), vs = [.ref b] ∧ BakAt K Z H b bs ds life i ∧ RetV (.int (grw bs ds (keepL bs life) * (bs.length : Int) + (i : Int))) H Q
def sp_Blong (K : PySem.W.Frag) (Z : Ad) : Sp := fun vs H Q _ => ∃ (b : Addr) (bs ds : List Int) (life : Int) (i : Nat), vs = [.ref b] ∧ BakAt K Z H b bs ds life i ∧ ∀ p H', Ex H H' → SqT K H' p ((longI bs ds (lmOf bs ds (keepL bs life))).map V.int) → Q (.ref p) H'
def sp_Bstock (K : PySem.W.Frag) (Z : Ad) : Sp := fun vs H Q _ => ∃ (b : Addr) (bs ds : List Int) (life : Int) (i : Nat) (t : Nat), vs = [.ref b, .int (t : Int)] ∧ (t : Int) ≤ 1000000000000000000 ∧ BakAt K Z H b bs ds life i ∧ RetV (.int (dayS bs ds (keepL bs life) t)) H Q
def sp_Bday (K : PySem.W.Frag) (Z : Ad) (j : Nat) : Sp := fun vs H Q _ => ∃ (b : Addr) (bs ds : List Int) (life : Int) (i : Nat) (t : Nat), vs = [.ref b, .int (t : Int)] ∧ (t : Int) ≤ 1000000000000000000 ∧ BakAt K Z H b bs ds life i ∧ RetV (.int ([solS bs ds (keepL bs life) t, misS bs ds (keepL bs life) t, thrS bs ds (keepL bs life) t].getD j 0)) H Q
theorem ok_Bakery_missed (T : Txt K mg Z) : FnOk P w K mg base CX0 4 Z.f_Bakery_missed Z.d_Bakery_missed p_Bakery_missed (sp_Bday K Z 1) := by
  refine T.F_Bakery_missed.ok sc_Bakery_missed (fun vs H Q E h => ?_) (fun cdv Ar outer s H vs Q E hr h => ?_)
  · obtain ⟨b, bs, ds, life, i, t, rfl, _⟩ := h
    rfl
  · obtain ⟨b, bs, ds, life, i, t, rfl, ht, hB, k⟩ := h
    refine ⟨_, (pss_cons (ps_expr (pe_call (ok_check_number T) (hr.mono (by decide)) (by rfl) T.g_check_number T.F_check_number.kp T.b_check_number .nil pass0 (pa_cons (pv 1) (pa_cons pe_int (pa_cons (pe_glob (v := .int 1000000000000000000) (by rfl) T.g_LAST_DAY ⟨_, rfl⟩) pa_nil)))))
      (pss_one (ps_ret (pe_ix (r := rIxT K) ix_tup (pe_meth (pe_fldK K rfl (pv 0) rfl) T.cl_Course T.m_Course_sales_on (ok_Course_sales_on T) (hr.mono (by decide)) T.b_Course_sales_on .nil pass0 (pa_cons (pv 1) pa_nil)) pe_int (fun _ _ => rfl))))), ?_⟩
    refine q_drop (ev_call (ea_cons (ev_var rfl) (ea_cons ev_c (ea_cons ev_c ea_nil))) (spv_num (by omega) ht)) fun H1 e1 => ?_
    obtain ⟨c, fc, hC⟩ := (hB.mono e1).fc
    obtain ⟨tb, td, tk, s⟩ := hC.sr
    have hs : salesI bs ds (keepL bs life) (gainOf bs ds) (firstOf bs ds (keepL bs life)) (fullOf bs ds (keepL bs life)) (t : Int) = _ := sales_is hB.com t
    refine s_ret (ev_ixNU (i := 1) (v := .int (misS bs ds (keepL bs life) t)) (eu_meth (by walk_at "ev") (hC.nf _ (by decide)) (ea_cons (ev_var rfl) ea_nil) (spu_sales_on s)) ev_c (by rw [hs]; rfl)) fun H2 e2 => k H2 (e1.trans e2)
theorem ok_Bakery_thrown (T : Txt K mg Z) : FnOk P w K mg base CX0 4 Z.f_Bakery_thrown Z.d_Bakery_thrown p_Bakery_thrown (sp_Bday K Z 2) := by
  refine T.F_Bakery_thrown.ok sc_Bakery_thrown (fun vs H Q E h => ?_) (fun cdv Ar outer s H vs Q E hr h => ?_)
  · obtain ⟨b, bs, ds, life, i, t, rfl, _⟩ := h
    rfl
  · obtain ⟨b, bs, ds, life, i, t, rfl, ht, hB, k⟩ := h
    refine ⟨_, (pss_cons (ps_expr (pe_call (ok_check_number T) (hr.mono (by decide)) (by rfl) T.g_check_number T.F_check_number.kp T.b_check_number .nil pass0 (pa_cons (pv 1) (pa_cons pe_int (pa_cons (pe_glob (v := .int 1000000000000000000) (by rfl) T.g_LAST_DAY ⟨_, rfl⟩) pa_nil)))))
      (pss_one (ps_ret (pe_ix (r := rIxT K) ix_tup (pe_meth (pe_fldK K rfl (pv 0) rfl) T.cl_Course T.m_Course_sales_on (ok_Course_sales_on T) (hr.mono (by decide)) T.b_Course_sales_on .nil pass0 (pa_cons (pv 1) pa_nil)) pe_int (fun _ _ => rfl))))), ?_⟩
    refine q_drop (ev_call (ea_cons (ev_var rfl) (ea_cons ev_c (ea_cons ev_c ea_nil))) (spv_num (by omega) ht)) fun H1 e1 => ?_
    obtain ⟨c, fc, hC⟩ := (hB.mono e1).fc
    obtain ⟨tb, td, tk, s⟩ := hC.sr
    have hs : salesI bs ds (keepL bs life) (gainOf bs ds) (firstOf bs ds (keepL bs life)) (fullOf bs ds (keepL bs life)) (t : Int) = _ := sales_is hB.com t
    refine s_ret (ev_ixNU (i := 2) (v := .int (thrS bs ds (keepL bs life) t)) (eu_meth (by walk_at "ev") (hC.nf _ (by decide)) (ea_cons (ev_var rfl) ea_nil) (spu_sales_on s)) ev_c (by rw [hs]; rfl)) fun H2 e2 => k H2 (e1.trans e2)
def totS (bs ds ks : List Int) (t : Nat) : List Int := [psum (solS bs ds ks) t, psum (misS bs ds ks) t, psum (thrS bs ds ks) t]
def sp_Btot (K : PySem.W.Frag) (Z : Ad) : Sp := fun vs H Q _ => ∃ (b : Addr) (bs ds : List Int) (life : Int) (i : Nat) (t : Nat), vs = [.ref b, .int (t : Int)] ∧ (t : Int) ≤ 1000000000000000000 ∧ BakAt K Z H b bs ds life i ∧ RetU ((totS bs ds (keepL bs life) t).map V.int) H Q
end Sw
namespace Sw
open PySem PySem.Spec PyProof.Rows L2 Evl
local macro_rules | `(tactic| walk_at "ev") => `(tactic| first
  | exact ev_c
  | exact ev_var rfl
  | ((with_reducible show Ev (tCB rMax2 _) _ _ _); exact ev_maxi (by walk_at "ev") (by walk_at "ev"))
  | ((with_reducible show Ev (tCB rMn _) _ _ _); exact ev_min2 (by walk_at "ev") (by walk_at "ev"))
  | ((with_reducible show Ev (tUn _ _) _ _ _); exact ev_un (by walk_at "ev") ru_neg)
  | ((with_reducible show Ev (tFld _ _ _) _ _ _); exact ev_fldK (by walk_at "ev") (by assumption))
  | ((with_reducible show Ev (tOp (rI0 _) _ _) _ _ _); exact ev_op (by walk_at "ev") (by walk_at "ev") rv_I0)
  | ((with_reducible show Ev (tOp rEq _ _) _ _ _); exact ev_op (by walk_at "ev") (by walk_at "ev") (rv_eq rfl))
  | ((with_reducible show Ev (tOp rNe _ _) _ _ _); exact ev_op (by walk_at "ev") (by walk_at "ev") (rv_ne rfl)))

/-! ### the law's draws: a list of the script, a position, a seed, a rest -/
def HS (H : Hp) (h l : Addr) : Prop := ∃ pos m rest : Int, H h = some (.lst [.ref l, .int pos, .int m, .int rest]) ∧ 0 ≤ pos ∧ 0 ≤ m ∧ m < 2147483647 ∧ 0 ≤ rest
def hl (h _l : Addr) : Addr → Prop := fun b => b = h
theorem HS.mono {H H' : Hp} {h l : Addr} (e : Ex H H') (q : HS H h l) : HS H' h l :=
  let ⟨p, m, r, h1, z⟩ := q; ⟨p, m, r, e _ _ h1, z⟩
theorem HS.kn {H : Hp} {h l : Addr} (q : HS H h l) : ∀ b, hl h l b → H b ≠ none := by
  obtain ⟨_, _, _, h1, _⟩ := q
  rintro b rfl z
  rw [h1] at z; cases z
/-- a draw may change h, and makes what it likes -/
structure Dr (h l : Addr) (H H' : Hp) : Prop where
  hs : HS H' h l
  ex : Ex (wn H (hl h l)) (wn H' (hl h l))
theorem Dr.trans {h l : Addr} {H H1 H2 : Hp} (a : Dr h l H H1) (b : Dr h l H1 H2) : Dr h l H H2 := ⟨b.hs, a.ex.trans b.ex⟩
theorem Dr.refl {h l : Addr} {H : Hp} (q : HS H h l) : Dr h l H H := ⟨q, Ex.refl _⟩
theorem Dr.of {h l : Addr} {H H' : Hp} (q : HS H h l) (e : Ex H H') : Dr h l H H' := ⟨q.mono e, wn_mono e⟩
def sp_drawn (K : PySem.W.Frag) : Sp := fun vs H Q _ => ∃ (h l : Addr) (cells : List Int) (count : Int), vs = [.ref h, .int count] ∧ 0 < count ∧ count ≤ 1000000000000000000 ∧ HS H h l ∧ SqL K (wn H (hl h l)) l (cells.map V.int) ∧ ∀ v H', 0 ≤ v → v < count → Dr h l H H' → Q (.int v) H'
section
variable {K : PySem.W.Frag} {σ : L2.St} {H H' : Hp} {ta tb te tx : TE} {x y z v : V} {a h l : Addr} {xs ys : List V}
theorem el_cat (ha : Ev ta σ H (.ref a)) (hx : H a = some (.lst xs)) (hb : EvL tb σ H ys) (hz : xs.length + ys.length ≤ 100000) : EvL (tOp rCat ta tb) σ H (xs ++ ys) := fun H1 e Q q =>
  ha H1 e _ fun H2 e2 => hb H2 (e.trans e2) _ fun p H3 _ e3 hp => ⟨a, p, xs, ys, rfl, rfl, e3 _ _ (e2 _ _ (e _ _ hx)), hp, sz_of hz, fun r hr => q r _ (fresh_back (e2.trans e3) hr) ((e2.trans e3).trans (Ex.new hr)) upd_same⟩
theorem Dr.upd {o : HO} (hN : hl h l a) (q : HS (L2.upd H a o) h l) : Dr h l H (L2.upd H a o) := ⟨q, wn_upd hN⟩
end
variable {P : Program} {w : World} {K : PySem.W.Frag} {mg : Str → Option Value} {base : Heap} {Z : Ad}
def sp_start (K : PySem.W.Frag) : Sp := fun vs H Q _ => ∃ (a : Addr) (ns : List Int), vs = [.ref a] ∧ SqL K H a (ns.map V.int) ∧ ns.length ≤ 63 ∧ ∀ h H', H h = none → Ex H H' → HS H' h a → Q (.ref h) H'
theorem ok__law_start (T : Txt K mg Z) : FnOk P w K mg base CX0 1 Z.f__law_start Z.d__law_start p__law_start (sp_start K) := by
  refine T.F__law_start.ok sc__law_start (fun vs H Q E h => ?_) (fun cdv Ar outer s H vs Q E hr h => ?_)
  · obtain ⟨a, ns, rfl, _⟩ := h
    rfl
  · obtain ⟨a, ns, rfl, hS, hn, k⟩ := h
    refine ⟨_, (pss_cons (ps_set (i := 1) sc__law_start.nd rfl (Or.inl rfl) pe_int)
      (pss_cons (ps_for PassesOwn.never rfl (pi_listK K rfl (pv 0)) (pg_name (i := 2) sc__law_start.nd rfl (Or.inl rfl)) (pss_one (ps_set (i := 1) sc__law_start.nd rfl (Or.inl rfl) (pe_op op_mod (pe_op op_add (pe_op op_add (pe_op op_mul (pv 1) pe_int) (pv 2)) pe_int) pe_int))))
      (pss_one (ps_ret (pe_lst (pa_cons (pv 0) (pa_cons pe_int (pa_cons (pv 1) (pa_cons pe_int pa_nil))))))))), ?_⟩
    refine q_asg ev_c fun H1 e1 => ?_
    refine q_forLn (ev_var rfl) (ex_l e1 hS) (fun i σ' H' => (∃ m x, σ' = [some (.ref a), some (.int m), x] ∧ 0 ≤ m ∧ m < 2147483647) ∧ Ex H H') (fun H2 e2 => ⟨⟨1, _, rfl, by decide, by decide⟩, e1.trans e2⟩) (fun i σ' H' _ p => ex_l p.2 hS) ?_ ?_
    · rintro i x σ' H' hx ⟨⟨m, _, rfl, m0, m1⟩, e2⟩
      obtain ⟨rfl, hi⟩ := at_map hx
      refine s_asg (ev_op (ev_op (ev_op (ev_op (ev_var rfl) ev_c (rv_I (wide_ok (by decide)))) (ev_var rfl) rv_I0) ev_c rv_I0) ev_c (rv_I (by show (0 : Int) < 2147483647; decide))) fun H2 e3 => ?_
      exact ⟨⟨_, _, rfl, Int.emod_nonneg _ (by decide), Int.emod_lt_of_pos _ (by decide)⟩, e2.trans e3⟩
    · rintro σ' H' ⟨⟨m, _, rfl, m0, m1⟩, e2⟩
      refine ⟨_, rfl, _, rfl, by show 4 ≤ sizeLine; decide, fun r hr => k r _ (fresh_back e2 hr) (e2.trans (Ex.new hr)) ⟨0, m, 0, upd_same, by decide, m0, m1, by decide⟩⟩
theorem ok__law_drawn (T : Txt K mg Z) : FnOk P w K mg base CX0 1 Z.f__law_drawn Z.d__law_drawn p__law_drawn (sp_drawn K) := by
  refine T.F__law_drawn.ok sc__law_drawn (fun vs H Q E h => ?_) (fun cdv Ar outer s H vs Q E hr h => ?_)
  · obtain ⟨a, l, cells, count, rfl, _⟩ := h
    rfl
  · obtain ⟨a, l, cells, count, rfl, p0, p1, hs, hS, k⟩ := h
    obtain ⟨pos, m, rest, h1, q0, m0, m1, r0⟩ := id hs
    have ix0 : ∀ {σ : L2.St} {G : Hp} {te : TE} {p' m' r' : Int}, Ev te σ G (.ref a) → G a = some (.lst [.ref l, .int p', .int m', .int r']) → Ev (tOp (rIxL K) te (tC (.int 0))) σ G (.ref l) := fun he hg => ev_ixL he (sq_of hg) ev_c rfl
    have ix1 : ∀ {σ : L2.St} {G : Hp} {te : TE} {p' m' r' : Int}, Ev te σ G (.ref a) → G a = some (.lst [.ref l, .int p', .int m', .int r']) → Ev (tOp (rIxL K) te (tC (.int 1))) σ G (.int p') := fun he hg => ev_ixL he (sq_of hg) ev_c rfl
    have ix2 : ∀ {σ : L2.St} {G : Hp} {te : TE} {p' m' r' : Int}, Ev te σ G (.ref a) → G a = some (.lst [.ref l, .int p', .int m', .int r']) → Ev (tOp (rIxL K) te (tC (.int 2))) σ G (.int m') := fun he hg => ev_ixL he (sq_of hg) ev_c rfl
    have ix3 : ∀ {σ : L2.St} {G : Hp} {te : TE} {p' m' r' : Int}, Ev te σ G (.ref a) → G a = some (.lst [.ref l, .int p', .int m', .int r']) → Ev (tOp (rIxL K) te (tC (.int 3))) σ G (.int r') := fun he hg => ev_ixL he (sq_of hg) ev_c rfl
    have p10 : (10 : Int) ^ (18 : Int).toNat = 1000000000000000000 := by decide
    have hlen : (((cells.map V.int).length : Nat) : Int) = (cells.length : Int) := by rw [List.length_map]
    refine ⟨_, (pss_cons (ps_if (pt_cmpR op_gt (pe_ix (r := rIxL K) ix_list (pv 0) pe_int (fun _ _ => rfl)) pe_int (nomark _)) (pss_cons (ps_set (i := 2) sc__law_drawn.nd rfl (Or.inl rfl) (pe_op op_mod (pe_ix (r := rIxL K) ix_list (pv 0) pe_int (fun _ _ => rfl)) (pv 1)))
      (pss_cons (ps_asg (pe_op op_fdivW (pe_ix (r := rIxL K) ix_list (pv 0) pe_int (fun _ _ => rfl)) (pv 1)) (pg_sub (pv 0) pe_int set_list))
      (pss_one (ps_ret (pv 2))))) pss_nil)
      (pss_cons (ps_asg (pe_op op_add (pe_ix (r := rIxL K) ix_list (pv 0) pe_int (fun _ _ => rfl)) pe_int) (pg_sub (pv 0) pe_int set_list))
      (pss_cons (ps_if (pt_cmpR op_le (pe_ix (r := rIxL K) ix_list (pv 0) pe_int (fun _ _ => rfl)) (pe_callB (r := rLenS K) (call_len_seq) (by rfl) T.b_len boot_len (pa_cons (pe_ix (r := rIxL K) ix_list (pv 0) pe_int (fun _ _ => rfl)) pa_nil)) (nomark _)) (pss_cons (ps_set (i := 3) sc__law_drawn.nd rfl (Or.inl rfl) (pe_ix (r := rIxL K) ix_list (pe_ix (r := rIxL K) ix_list (pv 0) pe_int (fun _ _ => rfl)) (pe_op op_sub (pe_ix (r := rIxL K) ix_list (pv 0) pe_int (fun _ _ => rfl)) pe_int) (fun _ _ => rfl)))
      (pss_cons (ps_asg (pe_ifExp (pt_cmpR op_ge (pv 3) (pe_op op_pow pe_int pe_int) (nomark _)) (pe_op op_fdivW (pv 3) (pv 1)) pe_int) (pg_sub (pv 0) pe_int set_list))
      (pss_one (ps_ret (pe_op op_mod (pv 3) (pv 1)))))) pss_nil)
      (pss_cons (ps_asg (pe_op op_mod (pe_op op_add (pe_op op_mul (pe_ix (r := rIxL K) ix_list (pv 0) pe_int (fun _ _ => rfl)) pe_int) pe_int) pe_int) (pg_sub (pv 0) pe_int set_list))
      (pss_one (ps_ret (pe_op op_mod (pe_op op_fdivW (pe_ix (r := rIxL K) ix_list (pv 0) pe_int (fun _ _ => rfl)) pe_int) (pv 1)))))))), ?_⟩
    refine q_when (b := decide ((0 : Int) < rest)) (et_test (ev_is (ev_op (ix3 (ev_var rfl) h1) ev_c rv_I0) rfl)) (fun hb H1 e1 => ?_) (fun hb H1 e1 => ?_)
    · have a1 := e1 _ _ h1
      refine q_asg (v := .int (rest % count)) (ev_op (ix3 (ev_var rfl) a1) (ev_var rfl) (rv_I p0)) fun H2 e2 => ?_
      have a2 := e2 _ _ a1
      refine q_setL (j := 3) (v := .int (rest / count)) a2 (ev_op (ix3 (ev_var rfl) a2) (ev_var rfl) (rv_I (wide_div (b := 60) p0 (by omega) (by decide) (by decide)))) (ev_var rfl) ev_c (by show 3 < 4; decide) fun H3 e3 => ?_
      have d1 : (upd H3 a (.lst (([.ref l, .int pos, .int m, .int rest] : List V).set 3 (.int (rest / count))))) a = some (.lst [.ref l, .int pos, .int m, .int (rest / count)]) := upd_same
      have q3 : HS (upd H3 a (.lst (([.ref l, .int pos, .int m, .int rest] : List V).set 3 (.int (rest / count))))) a l := ⟨_, _, _, d1, q0, m0, m1, Int.ediv_nonneg r0 (by omega)⟩
      refine s_ret (ev_var rfl) fun H4 e4 => ?_
      exact k _ _ (Int.emod_nonneg _ (by omega)) (Int.emod_lt_of_pos _ p0) (((Dr.of hs ((e1.trans e2).trans e3)).trans (Dr.upd rfl q3)).trans (Dr.of q3 e4))
    · have a1 := e1 _ _ h1
      refine q_setL (j := 1) (v := .int (pos + 1)) a1 (ev_op (ix1 (ev_var rfl) a1) ev_c rv_I0) (ev_var rfl) ev_c (by show 1 < 4; decide) fun H2 e2 => ?_
      have d1 : (upd H2 a (.lst (([.ref l, .int pos, .int m, .int rest] : List V).set 1 (.int (pos + 1))))) a = some (.lst [.ref l, .int (pos + 1), .int m, .int rest]) := upd_same
      have q3 : HS (upd H2 a (.lst (([.ref l, .int pos, .int m, .int rest] : List V).set 1 (.int (pos + 1))))) a l := ⟨_, _, _, d1, by omega, m0, m1, r0⟩
      have D3 := (Dr.of hs (e1.trans e2)).trans (Dr.upd rfl q3)
      generalize upd H2 a (.lst (([.ref l, .int pos, .int m, .int rest] : List V).set 1 (.int (pos + 1)))) = S3 at d1 q3 D3 ⊢
      have hS3 : SqL K S3 l (cells.map V.int) := ex_l (D3.ex.trans wn_ex) hS
      refine q_when (b := decide (pos + 1 ≤ (cells.length : Int))) (et_test (ev_is (ev_op (ix1 (ev_var rfl) d1) (Ev.int_eq (ev_len (ix0 (ev_var rfl) d1) hS3) hlen) rv_I0) rfl)) (fun hb2 H4 e4 => ?_) (fun hb2 H4 e4 => ?_)
      · have hp : pos + 1 ≤ (cells.length : Int) := by simpa using hb2
        have d4 := e4 _ _ d1
        refine q_asg (v := .int (cells.getD pos.toNat 0)) (ev_ixL (ix0 (ev_var rfl) d4) (ex_l e4 hS3) (Ev.int_eq (i := pos + 1 - 1) (ev_op (ix1 (ev_var rfl) d4) ev_c rv_I0) (by omega)) (atI_mapI q0 (by omega))) fun H5 e5 => ?_
        generalize cells.getD pos.toNat 0 = cell
        have d5 := e5 _ _ d4
        refine q_setL (j := 3) (v := .int (if (1000000000000000000 : Int) ≤ cell then cell / count else 0)) d5 ?_ (ev_var rfl) ev_c (by show 3 < 4; decide) fun H6 e6 => ?_
        · by_cases hc : (1000000000000000000 : Int) ≤ cell
          · rw [if_pos hc]
            exact ev_if (b := true) (et_is (et_test (ev_op (ev_var rfl) (Ev.int_eq (ev_op ev_c ev_c (rv_I ⟨by decide, by decide, by decide⟩)) p10) rv_I0)) (by simpa using hc)) (fun _ => ev_op (ev_var rfl) (ev_var rfl) (rv_I (wide_div (b := 60) p0 (by omega) (by decide) (by decide)))) (fun z => nomatch z)
          · rw [if_neg hc]
            exact ev_if (b := false) (et_is (et_test (ev_op (ev_var rfl) (Ev.int_eq (ev_op ev_c ev_c (rv_I ⟨by decide, by decide, by decide⟩)) p10) rv_I0)) (by simpa using hc)) (fun z => nomatch z) (fun _ => ev_c)
        have r6 : 0 ≤ (if (1000000000000000000 : Int) ≤ cell then cell / count else 0) := by
          split
          · exact Int.ediv_nonneg (by omega) (by omega)
          · decide
        generalize (if (1000000000000000000 : Int) ≤ cell then cell / count else 0) = rest' at r6 ⊢
        have d6 : (upd H6 a (.lst (([.ref l, .int (pos + 1), .int m, .int rest] : List V).set 3 (.int rest')))) a = some (.lst [.ref l, .int (pos + 1), .int m, .int rest']) := upd_same
        have q6 : HS (upd H6 a (.lst (([.ref l, .int (pos + 1), .int m, .int rest] : List V).set 3 (.int rest')))) a l := ⟨_, _, _, d6, by omega, m0, m1, r6⟩
        refine s_ret (ev_op (ev_var rfl) (ev_var rfl) (rv_I p0)) fun H7 e7 => ?_
        exact k _ _ (Int.emod_nonneg _ (by omega)) (Int.emod_lt_of_pos _ p0) (((D3.trans (Dr.of q3 ((e4.trans e5).trans e6))).trans (Dr.upd rfl q6)).trans (Dr.of q6 e7))
      · have d4 := e4 _ _ d1
        have n0 : 0 ≤ (m * 48271 + 11) % 2147483647 := Int.emod_nonneg _ (by omega)
        have n1 : (m * 48271 + 11) % 2147483647 < 2147483647 := Int.emod_lt_of_pos _ (by omega)
        refine q_setL (j := 2) (v := .int ((m * 48271 + 11) % 2147483647)) d4 (ev_op (ev_op (ev_op (ix2 (ev_var rfl) d4) ev_c (rv_I (wide_ok (by decide)))) ev_c rv_I0) ev_c (rv_I (by show (0 : Int) < 2147483647; decide))) (ev_var rfl) ev_c (by show 2 < 4; decide) fun H6 e6 => ?_
        generalize (m * 48271 + 11) % 2147483647 = m' at n0 n1 ⊢
        have d6 : (upd H6 a (.lst (([.ref l, .int (pos + 1), .int m, .int rest] : List V).set 2 (.int m')))) a = some (.lst [.ref l, .int (pos + 1), .int m', .int rest]) := upd_same
        have q6 : HS (upd H6 a (.lst (([.ref l, .int (pos + 1), .int m, .int rest] : List V).set 2 (.int m')))) a l := ⟨_, _, _, d6, by omega, n0, n1, r0⟩
        refine s_ret (ev_op (ev_op (ix2 (ev_var rfl) d6) ev_c (rv_I (wide_div (b := 3) (by decide) (by decide) (by decide) (by decide)))) (ev_var rfl) (rv_I p0)) fun H7 e7 => ?_
        exact k _ _ (Int.emod_nonneg _ (by omega)) (Int.emod_lt_of_pos _ p0) (((D3.trans (Dr.of q3 (e4.trans e6))).trans (Dr.upd rfl q6)).trans (Dr.of q6 e7))
end Sw
namespace Sw
open PySem PySem.Spec PyProof.Rows L2 Evl
local macro_rules | `(tactic| walk_at "ev") => `(tactic| first
  | exact ev_c
  | exact ev_var rfl
  | ((with_reducible show Ev (tCB rMax2 _) _ _ _); exact ev_maxi (by walk_at "ev") (by walk_at "ev"))
  | ((with_reducible show Ev (tCB rMn _) _ _ _); exact ev_min2 (by walk_at "ev") (by walk_at "ev"))
  | ((with_reducible show Ev (tUn _ _) _ _ _); exact ev_un (by walk_at "ev") ru_neg)
  | ((with_reducible show Ev (tFld _ _ _) _ _ _); exact ev_fldK (by walk_at "ev") (by assumption))
  | ((with_reducible show Ev (tOp (rI0 _) _ _) _ _ _); exact ev_op (by walk_at "ev") (by walk_at "ev") rv_I0)
  | ((with_reducible show Ev (tOp rEq _ _) _ _ _); exact ev_op (by walk_at "ev") (by walk_at "ev") (rv_eq rfl))
  | ((with_reducible show Ev (tOp rNe _ _) _ _ _); exact ev_op (by walk_at "ev") (by walk_at "ev") (rv_ne rfl)))

/-! ### evaluating while cells are drawn -/
def EvX (te : TE) (σ : L2.St) (H : Hp) (h l : Addr) (P : V → Hp → Prop) : Prop := ∀ H1, Dr h l H H1 → ∀ Q : VK, (∀ v H2, Dr h l H1 H2 → P v (wn H2 (hl h l)) → Q v H2) → te σ H1 Q
def EvI (te : TE) (σ : L2.St) (H : Hp) (h l : Addr) (A : Int → Prop) : Prop := EvX te σ H h l fun v _ => ∃ i, v = .int i ∧ A i
def EvXT (t : TT) (σ : L2.St) (H : Hp) (h l : Addr) : Prop := ∀ H1, Dr h l H H1 → ∀ Q : Bool → Hp → Prop, (∀ b H2, Dr h l H1 H2 → Q b H2) → t σ H1 Q
/-- a list, a tuple of numbers -/
def LI (A : List Int → Prop) : V → Hp → Prop := fun v G => ∃ p ns, v = .ref p ∧ G p = some (.lst (ns.map V.int)) ∧ A ns
def TI' (A : List Int → Prop) : V → Hp → Prop := fun v G => ∃ p ns, v = .ref p ∧ G p = some (.tup (ns.map V.int)) ∧ A ns
section
variable {K : PySem.W.Frag} {σ : L2.St} {H H' : Hp} {ta tb tc te tx : TE} {x y z v : V} {a h l : Addr} {xs ys : List V} {A B C D : Int → Prop} {i j : Int}
theorem hl_kind {G : Hp} {p : Addr} {o : HO} (q : HS G h l) (hp : G p = some o) (ho : ∀ ys, o ≠ .lst ys) : ¬ hl h l p := by
  obtain ⟨_, _, _, h1, _⟩ := q
  rintro rfl
  rw [h1] at hp; exact ho _ (Option.some.inj hp).symm
theorem hl_new {G G' : Hp} {p : Addr} (q : HS G h l) (hp : G p = none) : ¬ hl h l p := fun z => q.kn p z hp
theorem x_ev (hv : Ev te σ (wn H (hl h l)) v) : EvX te σ H h l (fun u _ => u = v) := fun H1 d Q q => hv H1 (d.ex.trans wn_ex) Q fun H2 e2 => q v H2 (Dr.of d.hs e2) rfl
theorem xi_ev (hv : Ev te σ (wn H (hl h l)) (.int i)) (ha : A i) : EvI te σ H h l A := fun H1 d Q q => hv H1 (d.ex.trans wn_ex) Q fun H2 e2 => q _ H2 (Dr.of d.hs e2) ⟨i, rfl, ha⟩
theorem x_evU (hv : EvU te σ (wn H (hl h l)) xs) : EvX te σ H h l (fun u G => ∃ p, u = .ref p ∧ G p = some (.tup xs)) := fun H1 d Q q =>
  hv H1 (d.ex.trans wn_ex) Q fun p H2 hp e2 h2 => q _ H2 (Dr.of d.hs e2) ⟨p, rfl, by rw [wn_ni (hl_new (G' := H2) d.hs hp)]; exact h2⟩
theorem x_evL (hv : EvL te σ (wn H (hl h l)) xs) : EvX te σ H h l (fun u G => ∃ p, u = .ref p ∧ G p = some (.lst xs)) := fun H1 d Q q =>
  hv H1 (d.ex.trans wn_ex) Q fun p H2 hp e2 h2 => q _ H2 (Dr.of d.hs e2) ⟨p, rfl, by rw [wn_ni (hl_new (G' := H2) d.hs hp)]; exact h2⟩
theorem x_evW (hv : EvW K te σ (wn H (hl h l)) xs) : EvX te σ H h l (fun u G => ∃ p, u = .ref p ∧ SqT K G p xs) := fun H1 d Q q =>
  hv H1 (d.ex.trans wn_ex) Q fun p H2 e2 h2 => q _ H2 (Dr.of d.hs e2) ⟨p, rfl, by
    have q2 := d.hs.mono e2
    rcases h2 with (z | ⟨u, z⟩) | z
    · exact .inl (.inl (by rw [wn_ni (hl_kind q2 z (fun _ q => nomatch q))]; exact z))
    · exact .inl (.inr ⟨u, by rw [wn_ni (hl_kind q2 z (fun _ q => nomatch q))]; exact z⟩)
    · exact .inr z⟩
theorem x_evR {Pr : Addr → Hp → Prop} (hv : EvR te σ (wn H (hl h l)) (hl h l) Pr) : EvX te σ H h l (fun u G => ∃ p, u = .ref p ∧ Pr p G) := fun H1 d Q q =>
  hv H1 (d.ex.trans wn_ex) d.hs.kn Q fun p H2 _ e2 hP => q _ H2 (Dr.of d.hs e2) ⟨p, rfl, hP⟩
theorem EvX.imp {P P' : V → Hp → Prop} (hv : EvX te σ H h l P) (f : ∀ v G, P v G → P' v G) : EvX te σ H h l P' := fun H1 d Q q => hv H1 d Q fun v H2 d2 p => q v H2 d2 (f _ _ p)
theorem EvX.from {P : V → Hp → Prop} (d : Dr h l H H') (hv : EvX te σ H h l P) : EvX te σ H' h l P := fun H1 d1 Q q => hv H1 (d.trans d1) Q q
theorem EvI.imp (hv : EvI te σ H h l A) (f : ∀ i, A i → B i) : EvI te σ H h l B := fun H1 d Q q => hv H1 d Q fun v H2 d2 ⟨i, e, p⟩ => q v H2 d2 ⟨i, e, f i p⟩
theorem xi_op0 {g : Int → Int → Int} (ha : EvI ta σ H h l A) (hb : EvI tb σ H h l B) (hc : ∀ i j, A i → B j → D (g i j)) : EvI (tOp (rI0 fun i j => .int (g i j)) ta tb) σ H h l D := fun H1 d Q q =>
  ha H1 d _ fun _ H2 d2 ⟨i, e, hi⟩ => hb H2 (d.trans d2) _ fun _ H3 d3 ⟨j, e', hj⟩ => ⟨i, j, e, e', q _ H3 (d2.trans d3) ⟨_, rfl, hc i j hi hj⟩⟩
theorem xi_op {R : Int → Int → Prop} {g : Int → Int → Int} (ha : EvI ta σ H h l A) (hb : EvI tb σ H h l B) (hc : ∀ i j, A i → B j → R i j ∧ D (g i j)) : EvI (tOp (rI R fun i j => .int (g i j)) ta tb) σ H h l D := fun H1 d Q q =>
  ha H1 d _ fun _ H2 d2 ⟨i, e, hi⟩ => hb H2 (d.trans d2) _ fun _ H3 d3 ⟨j, e', hj⟩ => ⟨i, j, e, e', (hc i j hi hj).1, q _ H3 (d2.trans d3) ⟨_, rfl, (hc i j hi hj).2⟩⟩
theorem xi_drawn {E : XK} {cells : List Int} (hS : SqL K (wn H (hl h l)) l (cells.map V.int)) (ha : ∀ G, Ev ta σ G (.ref h)) (hb : EvI tb σ H h l A) (hA : ∀ i, A i → 0 < i ∧ i ≤ 1000000000000000000) : EvI (tCall (sp_drawn K) [] E (tCons ta (tCons tb tNil))) σ H h l (fun v => 0 ≤ v ∧ ∃ i, A i ∧ v < i) := fun H1 d Q q =>
  ha H1 H1 (Ex.refl _) _ fun H2 e2 => hb H2 (d.trans (Dr.of d.hs e2)) _ fun _ H3 d3 ⟨i, e, hi⟩ => by
    subst e
    exact ⟨h, l, cells, i, rfl, (hA i hi).1, (hA i hi).2, d3.hs, ex_l (((d.trans (Dr.of d.hs e2)).trans d3).ex) hS, fun v H4 v0 v1 d4 => q _ H4 (((Dr.of d.hs e2).trans d3).trans d4) ⟨v, rfl, v0, i, hi, v1⟩⟩
theorem xb_cmp {g : Int → Int → Bool} (ha : EvI ta σ H h l A) (hb : EvI tb σ H h l B) : EvX (tOp (rI0 fun i j => .bl (g i j)) ta tb) σ H h l (fun v _ => ∃ k, v = .bl k) := fun H1 d Q q =>
  ha H1 d _ fun _ H2 d2 ⟨i, e, _⟩ => hb H2 (d.trans d2) _ fun _ H3 d3 ⟨j, e', _⟩ => ⟨i, j, e, e', q _ H3 (d2.trans d3) ⟨_, rfl⟩⟩
theorem xb_eq (ha : EvI ta σ H h l A) (hb : EvI tb σ H h l B) : EvX (tOp rEq ta tb) σ H h l (fun v _ => ∃ k, v = .bl k) := fun H1 d Q q =>
  ha H1 d _ fun _ H2 d2 ⟨i, e, _⟩ => hb H2 (d.trans d2) _ fun _ H3 d3 ⟨j, e', _⟩ => by
    subst e e'
    exact ⟨rfl, q _ H3 (d2.trans d3) ⟨_, rfl⟩⟩
def rInt1 : List V → Hp → VK → Prop := fun xs H Q => (∃ i, xs = [.int i] ∧ Q (.int i) H) ∨ ∃ k, xs = [.bl k] ∧ Q (.int (if k then 1 else 0)) H
theorem xi_intb (ha : EvX ta σ H h l (fun v _ => ∃ k, v = .bl k)) : EvI (tCB rInt1 (tCons ta tNil)) σ H h l (fun i => i = 0 ∨ i = 1) := fun H1 d Q q =>
  ha H1 d _ fun _ H2 d2 ⟨k, e⟩ => .inr ⟨k, by rw [e], q _ H2 d2 ⟨_, rfl, by cases k <;> simp⟩⟩
theorem xt_test (ha : EvX ta σ H h l (fun v _ => ∃ k, v = .bl k)) : EvXT (tTest ta) σ H h l := fun H1 d Q q => ha H1 d _ fun _ H2 d2 ⟨k, e⟩ => ⟨k, e, q k H2 d2⟩
/-- [a, b][draw] -/
theorem xi_pick {n : Nat} {ns : List Int} (ha : EvL ta σ (wn H (hl h l)) (ns.map V.int)) (hb : EvI tb σ H h l B) (hn : ∀ i, B i → 0 ≤ i ∧ i < ns.length) : EvI (tOp (rIxL K) ta tb) σ H h l (fun i => i ∈ ns) := fun H1 d Q q =>
  x_evL ha H1 d _ fun _ H2 d2 ⟨p, e, hp⟩ => hb H2 (d.trans d2) _ fun _ H3 d3 ⟨j, e', hj⟩ => by
    subst e e'
    obtain ⟨j0, j1⟩ := hn j hj
    refine ⟨p, ns.map V.int, j, .int (ns.getD j.toNat 0), rfl, rfl, sq_of (wn_ex _ _ (d3.ex _ _ hp)), atI_mapI j0 j1, q _ H3 (d2.trans d3) ⟨_, rfl, ?_⟩⟩
    have hlt : j.toNat < ns.length := by omega
    have e : ns.getD j.toNat 0 = ns[j.toNat] := by simp [List.getD, hlt]
    rw [e]; exact List.getElem_mem hlt
/-- [e for i in range(n)], e drawn -/
theorem x_lcR {ta : TA} {jj : Nat} {vs : List Nat} {n : Int} (hn : EvA ta σ (wn H (hl h l)) [.int n]) (hz : 0 ≤ n ∧ n ≤ 40000) (hw : ∀ x, wipe ((wipe σ vs).set jj (some x)) vs = wipe σ vs)
    (he : ∀ (i : Nat) H1, Dr h l H H1 → (i : Int) < n → EvI te ((wipe σ vs).set jj (some (.int (i : Int)))) H1 h l A) : EvX (tLc (iRng1 ta) (gName jj) tYes te vs) σ H h l (LI fun ns => (ns.length : Int) = n ∧ ∀ x ∈ ns, A x) := fun H0 d0 Q q =>
  hn H0 (d0.ex.trans wn_ex) _ fun H1 e1 => ⟨n, rfl, by omega, by omega, fun Dl hD => by
    have d1 := Dr.of d0.hs e1
    have nD : ¬ hl h l Dl := hl_new (G' := H1) d1.hs hD
    have dn : Dr h l H1 (upd H1 Dl (.lst [])) := Dr.of d1.hs (Ex.new hD)
    refine lc_range (lo := 0) (n := n.toNat) (fun i H' => Dr h l H1 H' ∧ ∃ ns : List Int, H' Dl = some (.lst (ns.map V.int)) ∧ ns.length = i ∧ ∀ x ∈ ns, A x) ⟨dn, [], upd_same, rfl, by simp⟩ (fun i H' hi p => ?_) (fun H' p => ?_)
    · obtain ⟨d2, ns, h2, hl2, hA⟩ := p
      have e0 : (0 : Int) + (i : Int) = (i : Int) := Int.zero_add _
      show wipe ((wipe σ vs).set jj (some (.int ((0 : Int) + (i : Int))))) vs = wipe σ vs ∧ _
      refine ⟨hw _, ?_⟩
      show te ((wipe σ vs).set jj (some (.int ((0 : Int) + (i : Int))))) H' _
      rw [e0]
      refine he i H' ((d0.trans d1).trans d2) (by omega) H' (Dr.refl d2.hs) _ fun v H3 d3 hv => ?_
      obtain ⟨k, rfl, hk⟩ := hv
      have h3 : H3 Dl = some (.lst (ns.map V.int)) := wn_ex _ _ (d3.ex _ _ (by rw [wn_ni nD]; exact h2))
      have d5 : Dr h l H1 (upd H3 Dl (.lst (ns.map V.int ++ [.int k]))) := ⟨by
        obtain ⟨p0, m, r, a1, rr⟩ := d3.hs
        exact ⟨p0, m, r, by rw [upd_ne (fun z => nD z.symm)]; exact a1, rr⟩, fun b u hb => by
        obtain ⟨q1, q2⟩ := wn_some hb
        have z := wn_ex _ _ ((d2.trans d3).ex b u hb)
        rw [wn_ni q1, upd_ne (ne_of_none q2 hD)]
        exact z⟩
      refine ⟨_, h3, by rw [List.length_map]; exact sz_lt (by omega), d5, ns ++ [k], by rw [upd_same, List.map_append]; rfl, by rw [List.length_append, hl2]; rfl, fun x hx => ?_⟩
      rcases List.mem_append.mp hx with z | z
      · exact hA x z
      · rw [List.mem_singleton.mp z]; exact hk
    · obtain ⟨d2, ns, h2, hl2, hA⟩ := p
      exact q _ H' (d1.trans d2) ⟨Dl, ns, rfl, by rw [wn_ni nD]; exact h2, by omega, hA⟩⟩
/-- statements whose values are drawn -/
theorem x_ret {P : V → Hp → Prop} {D : Ends} (hs : HS H h l) (hx : EvX te σ H h l P) (k : ∀ v H2, Dr h l H H2 → P v (wn H2 (hl h l)) → D.rt v H2) : tRet te D σ H := hx H (Dr.refl hs) _ k
theorem x_asgG {P : V → Hp → Prop} {D : Ends} {tz : TS} {g : TG} (hs : HS H h l) (hx : EvX te σ H h l P) (k : ∀ v H2, Dr h l H H2 → P v (wn H2 (hl h l)) → g v σ H2 (tz D)) : tSeq (tAsg te g) tz D σ H := hx H (Dr.refl hs) _ k
theorem x_asg {P : V → Hp → Prop} {D : Ends} {tz : TS} {n : Nat} (hs : HS H h l) (hx : EvX te σ H h l P) (k : ∀ v H2, Dr h l H H2 → P v (wn H2 (hl h l)) → tz D (σ.set n (some v)) H2) : tSeq (tAsg te (gName n)) tz D σ H := hx H (Dr.refl hs) _ k
theorem x_asgI {D : Ends} {tz : TS} {n : Nat} (hs : HS H h l) (hx : EvI te σ H h l A) (k : ∀ i H2, Dr h l H H2 → A i → tz D (σ.set n (some (.int i))) H2) : tSeq (tAsg te (gName n)) tz D σ H := hx H (Dr.refl hs) _ fun _ H2 d ⟨i, e, p⟩ => by subst e; exact k i H2 d p
theorem x_par {P Q : V → Hp → Prop} {D : Ends} {tz : TS} {m n : Nat} (hs : HS H h l) (hx : EvX ta σ H h l P) (hy : EvX tb σ H h l Q) (k : ∀ v w H1 H2, Dr h l H H1 → Dr h l H1 H2 → P v (wn H1 (hl h l)) → Q w (wn H2 (hl h l)) → tz D ((σ.set m (some v)).set n (some w)) H2) : tSeq (tPar m n (tCons ta (tCons tb tNil))) tz D σ H :=
  hx H (Dr.refl hs) _ fun v H1 d1 p1 => hy H1 d1 _ fun w H2 d2 p2 => ⟨v, w, rfl, k v w H1 H2 d1 d2 p1 p2⟩
theorem x_if {D : Ends} {tt : TT} {tu tw tz : TS} (hs : HS H h l) (hx : EvXT tt σ H h l) (h1 : ∀ H2, Dr h l H H2 → tu { D with nx := tz D } σ H2) (h2 : ∀ H2, Dr h l H H2 → tw { D with nx := tz D } σ H2) : tSeq (tIfS tt tu tw) tz D σ H := hx H (Dr.refl hs) _ fun b H2 d => by
  cases b with
  | true => exact h1 H2 d
  | false => exact h2 H2 d
theorem x_ifK {M : L2.St → Hp → Prop} {D : Ends} {tt : TT} {tu tw tz : TS} (hs : HS H h l) (hx : EvXT tt σ H h l) (fin : ∀ σ' H', M σ' H' → tz D σ' H') (h1 : ∀ H2, Dr h l H H2 → (∀ σ' H', M σ' H' → tz D σ' H') → tu { D with nx := tz D } σ H2)
    (h2 : ∀ H2, Dr h l H H2 → (∀ σ' H', M σ' H' → tz D σ' H') → tw { D with nx := tz D } σ H2) : tSeq (tIfS tt tu tw) tz D σ H := x_if hs hx (fun H2 d => h1 H2 d fin) (fun H2 d => h2 H2 d fin)
/-- a call all of whose arguments are drawn: the first ones plain -/
theorem x_call3 {sp : Sp} {E : XK} {P : V → Hp → Prop} {u : V} (ha : ∀ G, Ev ta σ G u) (hb : EvI tb σ H h l A) (hc : EvI tc σ H h l B) (hp : ∀ i j H1, A i → B j → Dr h l H H1 → ∀ Q : VK, (∀ v H2, Dr h l H1 H2 → P v (wn H2 (hl h l)) → Q v H2) → sp [u, .int i, .int j] H1 Q E) :
    EvX (tCall sp [] E (tCons ta (tCons tb (tCons tc tNil)))) σ H h l P := fun H1 d Q q =>
  ha H1 H1 (Ex.refl _) _ fun H2 e2 => hb H2 (d.trans (Dr.of d.hs e2)) _ fun _ H3 d3 ⟨i, e, hi⟩ => hc H3 ((d.trans (Dr.of d.hs e2)).trans d3) _ fun _ H4 d4 ⟨j, e', hj⟩ => by
    subst e e'
    exact hp i j H4 hi hj (((d.trans (Dr.of d.hs e2)).trans d3).trans d4) Q fun v H5 d5 p => q v H5 ((((Dr.of d.hs e2)).trans d3).trans (d4.trans d5)) p
theorem x_tupL {A : List Int → Prop} (ha : EvX ta σ H h l (LI A)) : EvX (tCB (rTupS K) (tCons ta tNil)) σ H h l (TI' A) := fun H1 d Q q =>
  ha H1 d _ fun _ H2 d2 ⟨p, ns, e, hp, hA⟩ => ⟨p, ns.map V.int, by rw [e], .inl ⟨sq_of (wn_ex _ _ hp), fun t ht => by
    have d3 := Dr.of d2.hs (Ex.new (o := .tup (ns.map V.int)) ht)
    exact q _ _ (d2.trans d3) ⟨t, ns, rfl, by rw [wn_ni (hl_new (G' := H2) d2.hs ht)]; exact upd_same, hA⟩⟩⟩
theorem ew_cat (ha : EvW K ta σ H xs) (hb : EvW K tb σ H ys) (hz : xs.length + ys.length ≤ 100000) : EvW K (tOp (rCatA K) ta tb) σ H (xs ++ ys) := fun H1 e Q q =>
  ha H1 e _ fun p H2 e2 h2 => hb H2 (e.trans e2) _ fun r H3 e3 h3 => ⟨p, r, xs, ys, rfl, rfl, ex_t e3 h2, h3, sz_of hz,
    fun z => q r H3 (e2.trans e3) (by rw [z]; exact h3), fun _ z => q p H3 (e2.trans e3) (by rw [z, List.append_nil]; exact ex_t e3 h2),
    fun _ _ t ht => q t _ ((e2.trans e3).trans (Ex.new ht)) (st_of upd_same)⟩
theorem ew_drop {tl : TE} {k : Nat} (ha : EvW K te σ H xs) (hk : Ev tl σ H (.int (k : Int))) : EvW K (tSl (rSlA K) te (tPart tl) tNoPart) σ H (xs.drop k) := fun H1 e Q q =>
  ha H1 e _ fun p H2 e2 h2 => hk H2 (e.trans e2) _ fun H3 e3 => ⟨(k : Int), rfl, p, xs, rfl, ex_t e3 h2, fun w => by
      have hi : min k xs.length = 0 := by rw [← HT.sIx_nat xs.length 0 k]; exact w.1
      have t : xs.drop k = xs := by
        rcases Nat.eq_zero_or_pos k with z | z
        · rw [z]; rfl
        · have : xs.length = 0 := by omega
          rw [List.length_eq_zero_iff.mp this]; simp
      rw [t] at q
      exact q p H3 (e2.trans e3) (ex_t e3 h2), fun _ r hr => by
      refine q r _ ((e2.trans e3).trans (Ex.new hr)) (st_of ?_)
      rw [upd_same]
      unfold cutV
      rw [HT.sIx_none, HT.sIx_nat]
      congr 2
      by_cases hk : k ≤ xs.length
      · rw [Nat.min_eq_left hk, List.take_of_length_le (by simp)]
      · rw [Nat.min_eq_right (by omega)]
        simp [List.drop_eq_nil_of_le (Nat.le_of_not_le hk)]⟩
end
end Sw
namespace Sw
open PySem PySem.Spec PyProof.Rows L2 Evl LamX NdefX SX
local macro_rules | `(tactic| walk_at "ev") => `(tactic| first
  | exact ev_c
  | exact ev_var rfl
  | ((with_reducible show Ev (tCB rMax2 _) _ _ _); exact ev_maxi (by walk_at "ev") (by walk_at "ev"))
  | ((with_reducible show Ev (tCB rMn _) _ _ _); exact ev_min2 (by walk_at "ev") (by walk_at "ev"))
  | ((with_reducible show Ev (tUn _ _) _ _ _); exact ev_un (by walk_at "ev") ru_neg)
  | ((with_reducible show Ev (tFld _ _ _) _ _ _); exact ev_fldK (by walk_at "ev") (by assumption))
  | ((with_reducible show Ev (tOp (rI0 _) _ _) _ _ _); exact ev_op (by walk_at "ev") (by walk_at "ev") rv_I0)
  | ((with_reducible show Ev (tOp rEq _ _) _ _ _); exact ev_op (by walk_at "ev") (by walk_at "ev") (rv_eq rfl))
  | ((with_reducible show Ev (tOp rNe _ _) _ _ _); exact ev_op (by walk_at "ev") (by walk_at "ev") (rv_ne rfl)))

/-! ### lines of cells -/
theorem sum_le {B : Nat} : ∀ ls : List (List Nat), (∀ x ∈ ls, x.length ≤ B) → (ls.map (·.length)).sum ≤ ls.length * B
  | [], _ => by simp
  | x :: r, h => by
    have a := sum_le r fun y hy => h y (List.mem_cons_of_mem _ hy)
    have b := h x List.mem_cons_self
    rw [List.map_cons, List.sum_cons, List.length_cons, Nat.succ_mul]
    omega
theorem padL_le {w : Nat} {c : List Nat} {B : Nat} (hw : w ≤ B) (hc : c.length ≤ B) : (padL w c).length ≤ B := by
  unfold padL
  rw [List.length_append, List.length_replicate]
  omega
theorem line5 : ∀ cs : List (List Nat), cs.length = 5 → ((List.range 5).map fun i => padL (ws5.getD i 0) (cs.getD i [])).flatten = lineW ws5 cs
  | [a, b, c, d, e], _ => by
    show _ = padL 26 a ++ (padL 14 b ++ (padL 14 c ++ (padL 14 d ++ (padL 14 e ++ []))))
    simp [List.range_succ, ws5]
theorem ws_le (i : Nat) : ws5.getD i 0 ≤ 26 := by
  match i with
  | 0 | 1 | 2 | 3 | 4 => decide
  | _ + 5 => simp [ws5]
theorem getD_len {cs : List (List Nat)} {B : Nat} (h : ∀ c ∈ cs, c.length ≤ B) (i : Nat) : (cs.getD i []).length ≤ B := by
  by_cases hi : i < cs.length
  · have e : cs.getD i [] = cs[i] := by simp [List.getD, hi]
    rw [e]; exact h _ (List.getElem_mem hi)
  · have e : cs.getD i [] = [] := by simp [List.getD, List.getElem?_eq_none (Nat.le_of_not_lt hi)]
    rw [e]; exact Nat.zero_le _
def off5 (i : Nat) : Nat := (ws5.take i).sum
theorem cell_at (l : List Nat) : ∀ i, i < 5 → (cellsW ws5 l).take (i + 1) = (cellsW ws5 l).take i ++ [lst ((l.drop (off5 i)).take (ws5.getD i 0))] := by
  have e : cellsW ws5 l = [lst (l.take 26), lst ((l.drop 26).take 14), lst ((l.drop 40).take 14), lst ((l.drop 54).take 14), lst ((l.drop 68).take 14)] := by
    simp [cellsW, ws5, List.drop_drop]
  intro i hi
  rw [e]
  match i, hi with
  | 0, _ | 1, _ | 2, _ | 3, _ | 4, _ => rfl
theorem off_succ (i : Nat) (hi : i < 5) : off5 (i + 1) = off5 i + ws5.getD i 0 := by
  match i, hi with
  | 0, _ | 1, _ | 2, _ | 3, _ | 4, _ => rfl
section
variable {K : PySem.W.Frag} {σ : L2.St} {H H' : Hp} {ta tb te : TE} {v : V} {xs ys : List V} {l : List Nat}
theorem ev_cS {z : Str} (h : z = S l) : Ev (tC (.str z)) σ H (vs_ l) := by subst h; exact ev_c
theorem el_is (h : EvL te σ H ys) (e : ys = xs) : EvL te σ H xs := e ▸ h
theorem ev_call1L {sp : Sp} {E : XK} (h : EvL ta σ H xs) (hs : ∀ p H1, Ex H H1 → H1 p = some (.lst xs) → SpV sp [.ref p] H1 v) : Ev (tCall sp [] E (tCons ta tNil)) σ H v := fun H1 e Q q =>
  h H1 e _ fun p H2 _ e2 hp => hs p H2 (e.trans e2) hp H2 (Ex.refl _) Q (fun H3 e3 => q H3 (e2.trans e3)) E
theorem at_vs {cs : List (List Nat)} {i : Nat} {x : V} (h : (cs.map vs_)[i]? = some x) : x = vs_ (cs.getD i []) ∧ i < cs.length := by
  rw [List.getElem?_map] at h
  obtain ⟨y, hy, rfl⟩ := Option.map_eq_some_iff.mp h
  exact ⟨by simp [List.getD, hy], (List.getElem?_eq_some_iff.mp hy).1⟩
def vn (n : Nat) : V := .int (n : Int)
theorem at_vn {ns : List Nat} {i : Nat} {x : V} (h : (ns.map vn)[i]? = some x) : x = .int ((ns.getD i 0 : Nat) : Int) ∧ i < ns.length ∧ ns.getD i 0 ∈ ns := by
  rw [List.getElem?_map] at h
  obtain ⟨y, hy, rfl⟩ := Option.map_eq_some_iff.mp h
  have e : ns.getD i 0 = y := by simp [List.getD, hy]
  rw [e]
  exact ⟨rfl, (List.getElem?_eq_some_iff.mp hy).1, List.mem_of_getElem? hy⟩
theorem map_getD {α : Type} (d : α) (f : α → V) (ns : List α) : (List.range ns.length).map (fun i => f (ns.getD i d)) = ns.map f := by
  apply List.ext_getElem
  · simp
  · intro i h1 h2
    simp [List.getD] at h1 h2 ⊢
    simp [h2]
end
variable {P : Program} {w : World} {K : PySem.W.Frag} {mg : Str → Option Value} {base : Heap} {Z : Ad}
def sp_join (K : PySem.W.Frag) : Sp := fun vs H Q _ => ∃ (p : Addr) (cs : List (List Nat)), vs = [.ref p] ∧ SqL K H p (cs.map vs_) ∧ cs.length = 5 ∧ (∀ c ∈ cs, c.length ≤ 200) ∧ RetV (vs_ (lineW ws5 cs)) H Q
theorem spv_join {H : Hp} {p : Addr} {cs : List (List Nat)} (h : SqL K H p (cs.map vs_)) (h5 : cs.length = 5) (hc : ∀ c ∈ cs, c.length ≤ 200) : SpV (sp_join K) [.ref p] H (vs_ (lineW ws5 cs)) := fun _ e _ q _ => ⟨p, cs, rfl, ex_l e h, h5, hc, q⟩
theorem ok_join_cells (T : Txt K mg Z) : FnOk P w K mg base CX0 1 Z.f_join_cells Z.d_join_cells p_join_cells (sp_join K) := by
  refine T.F_join_cells.ok sc_join_cells (fun vs H Q E h => ?_) (fun cdv Ar outer s H vs Q E hr h => ?_)
  · obtain ⟨p, cs, rfl, _⟩ := h
    rfl
  · obtain ⟨p, cs, rfl, hS, h5, hc, k⟩ := h
    refine ⟨_, (pss_one (ps_ret (pe_m1 PySem.F.slot_str_join PySem.F.type_str_join (mt_jn K rfl) pe_str (pe_lc (own := [("cell", 1), ("_", 2), ("width", 3)]) rfl sc_join_cells.nd (pi_zipM K rfl (by rfl) T.b_zip (pa_cons (pv 0) (pa_cons (pe_glob (v := .ref Z.a_COLUMNS) (by rfl) T.g_COLUMNS rfl) pa_nil))) (blkOk_by (own := [("cell", 1), ("_", 2), ("width", 3)]) (N := n_join_cells) (sc := defScope s_join_cells) (scope := { kind := PySem.ScopeKind.function, names := [ (PySem.Str.ofString ".0", PySem.NameKind.local), (PySem.Str.ofString "cell", PySem.NameKind.local), (PySem.Str.ofString "_", PySem.NameKind.local), (PySem.Str.ofString "width", PySem.NameKind.local)], isGenerator := false, isCoroutine := false, more := [] : PySem.Scope }) (by decide +kernel)) (fun _ _ _ _ _ => (by exact (pg_tupK K (n := 2) rfl rfl (pgs_cons (pg_name (i := 1) sc_join_cells.nd rfl (Or.inl rfl)) (pgs_cons (by exact (pg_tupK K (n := 2) rfl rfl (pgs_cons (pg_name (i := 2) sc_join_cells.nd rfl (Or.inl rfl)) (pgs_cons (pg_name (i := 3) sc_join_cells.nd rfl (Or.inl rfl)) pgs_nil)))) pgs_nil))))) (fun _ _ _ _ _ => pts_nil) (fun _ _ _ _ _ => (pe_m1 PySem.F.slot_str_rjust PySem.F.type_str_rjust mt_rj (pv 1) (pv 3))))))), ?_⟩
    have e1 : TL.joinL [] ((List.range 5).map fun i => padL (ws5.getD i 0) (cs.getD i [])) = lineW ws5 cs := by rw [joinL_nil, line5 cs h5]
    refine s_ret (v := vs_ (lineW ws5 cs)) (ev_is (ev_jn (ls := (List.range 5).map fun i => padL (ws5.getD i 0) (cs.getD i [])) (c := []) (ev_cS (by decide +kernel)) (el_is (el_lcZM (v := fun i => vs_ (padL (ws5.getD i 0) (cs.getD i []))) (ea_cons (ev_var rfl) (ea_cons ev_c ea_nil)) hS T.co_COLUMNS (by rw [List.length_map, h5]) (fun _ _ _ => rfl) (fun i x G e hx => ?_)) (by rw [List.map_map]; rfl)) ?_) (by rw [e1])) fun H1 e1 => k H1 e1
    · obtain ⟨rfl, _⟩ := at_vs hx
      exact ev_rj (ev_var rfl) (ev_var rfl) (Nat.le_trans (ws_le i) (by decide))
    · refine Nat.le_trans (Nat.add_le_add (sum_le (B := 200) _ fun x hx => ?_) (Nat.le_refl _)) (by simp)
      obtain ⟨i, _, rfl⟩ := List.mem_map.mp hx
      exact padL_le (Nat.le_trans (ws_le i) (by decide)) (getD_len hc i)
def sp_first1 : Sp := fun vs H Q _ => vs = [] ∧ RetV (vs_ (lineW ws5 hdr5)) H Q
theorem spv_first {H : Hp} : SpV sp_first1 [] H (vs_ (lineW ws5 hdr5)) := fun _ _ _ q _ => ⟨rfl, q⟩
theorem ok_first_line (T : Txt K mg Z) : FnOk P w K mg base CX0 2 Z.f_first_line Z.d_first_line p_first_line sp_first1 := by
  refine T.F_first_line.ok sc_first_line (fun vs H Q E h => ?_) (fun cdv Ar outer s H vs Q E hr h => ?_)
  · obtain ⟨rfl, _⟩ := h
    rfl
  · obtain ⟨rfl, k⟩ := h
    refine ⟨_, (pss_one (ps_ret (pe_call (ok_join_cells T) (hr.mono (by decide)) (by rfl) T.g_join_cells T.F_join_cells.kp T.b_join_cells .nil pass0 (pa_cons (pe_lc (own := [("word", 0), ("_", 1)]) rfl sc_first_line.nd (pi_tupK K rfl (pe_glob (v := .ref Z.a_COLUMNS) (by rfl) T.g_COLUMNS rfl)) (blkOk_by (own := [("word", 0), ("_", 1)]) (N := n_first_line) (sc := defScope s_first_line) (scope := { kind := PySem.ScopeKind.function, names := [ (PySem.Str.ofString ".0", PySem.NameKind.local), (PySem.Str.ofString "word", PySem.NameKind.local), (PySem.Str.ofString "_", PySem.NameKind.local)], isGenerator := false, isCoroutine := false, more := [] : PySem.Scope }) (by decide +kernel)) (fun _ _ _ _ _ => (by exact (pg_tupK K (n := 2) rfl rfl (pgs_cons (pg_name (i := 0) sc_first_line.nd rfl (Or.inl rfl)) (pgs_cons (pg_name (i := 1) sc_first_line.nd rfl (Or.inl rfl)) pgs_nil))))) (fun _ _ _ _ _ => pts_nil) (fun _ _ _ _ _ => (pv 0))) pa_nil)))), ?_⟩
    refine s_ret (v := vs_ (lineW ws5 hdr5)) (ev_call1L (xs := hdr5.map vs_) (el_is (el_lcCol (v := fun i => vs_ (hdr5.getD i [])) ev_c T.co_COLUMNS (fun _ _ => rfl) (fun i G e hi => ev_var rfl)) rfl) fun p G e hp => spv_join (sq_of hp) rfl (by decide)) fun H1 e1 => k H1 e1
def sp_print (K : PySem.W.Frag) : Sp := fun vs H Q _ => ∃ (p : Addr) (ns : List Nat), vs = [.ref p] ∧ SqL K H p (ns.map vn) ∧ ns.length = 5 ∧ (∀ n ∈ ns, n < 10 ^ 40) ∧ RetV (vs_ (lineW ws5 (ns.map G))) H Q
theorem spv_print {H : Hp} {p : Addr} {ns : List Nat} (h : SqL K H p (ns.map vn)) (h5 : ns.length = 5) (hc : ∀ n ∈ ns, n < 10 ^ 40) : SpV (sp_print K) [.ref p] H (vs_ (lineW ws5 (ns.map G))) := fun _ e _ q _ => ⟨p, ns, rfl, ex_l e h, h5, hc, q⟩
theorem ok_print_numbers (T : Txt K mg Z) : FnOk P w K mg base CX0 2 Z.f_print_numbers Z.d_print_numbers p_print_numbers (sp_print K) := by
  refine T.F_print_numbers.ok sc_print_numbers (fun vs H Q E h => ?_) (fun cdv Ar outer s H vs Q E hr h => ?_)
  · obtain ⟨p, ns, rfl, _⟩ := h
    rfl
  · obtain ⟨p, ns, rfl, hS, h5, hc, k⟩ := h
    refine ⟨_, (pss_one (ps_ret (pe_call (ok_join_cells T) (hr.mono (by decide)) (by rfl) T.g_join_cells T.F_join_cells.kp T.b_join_cells .nil pass0 (pa_cons (pe_lc (own := [("number", 1)]) rfl sc_print_numbers.nd (pi_listK K rfl (pv 0)) (blkOk_by (own := [("number", 1)]) (N := n_print_numbers) (sc := defScope s_print_numbers) (scope := { kind := PySem.ScopeKind.function, names := [(PySem.Str.ofString ".0", PySem.NameKind.local), (PySem.Str.ofString "number", PySem.NameKind.local)], isGenerator := false, isCoroutine := false, more := [] : PySem.Scope }) (by decide +kernel)) (fun _ _ _ _ _ => (pg_name (i := 1) sc_print_numbers.nd rfl (Or.inl rfl))) (fun _ _ _ _ _ => pts_nil) (fun _ _ _ _ _ => (pe_joined1 (pe_fmtC (pv 1))))) pa_nil)))), ?_⟩
    refine s_ret (v := vs_ (lineW ws5 (ns.map G))) (ev_call1L (xs := (ns.map G).map vs_) (el_is (el_lcL (fun _ => true) (fun i => vs_ (G (ns.getD i 0))) (ev_var rfl) hS (by rw [List.length_map]; omega) (fun _ => rfl) (fun _ _ _ _ _ => et_yes) (fun i x G1 e hx _ => ?_)) ?_) fun p G1 e hp => spv_join (sq_of hp) (by rw [List.length_map, h5]) (fun c hc2 => ?_)) fun H1 e1 => k H1 e1
    · obtain ⟨rfl, _, hm⟩ := at_vn hx
      exact ev_fmtC (ev_var rfl) (hc _ hm)
    · rw [given_all, List.length_map, map_getD 0 (fun n => vs_ (G n)), List.map_map]; rfl
    · obtain ⟨n, hn, rfl⟩ := List.mem_map.mp hc2
      exact Nat.le_trans (g_len (hc n hn)) (by decide)
def sp_split : Sp := fun vs H Q _ => ∃ l : List Nat, vs = [vs_ l] ∧ l.length ≤ 100000 ∧ RetL ((cellsW ws5 l).map vs_) H Q
theorem spl_split {H : Hp} {l : List Nat} (hl : l.length ≤ 100000) : SpL sp_split [vs_ l] H ((cellsW ws5 l).map vs_) := fun _ _ _ q _ => ⟨l, rfl, hl, fun p H2 n e h => q p H2 n e h⟩
theorem ok_split_cells (T : Txt K mg Z) : FnOk P w K mg base CX0 1 Z.f_split_cells Z.d_split_cells p_split_cells sp_split := by
  refine T.F_split_cells.ok sc_split_cells (fun vs H Q E h => ?_) (fun cdv Ar outer s H vs Q E hr h => ?_)
  · obtain ⟨l, rfl, _⟩ := h
    rfl
  · obtain ⟨l, rfl, hl, k⟩ := h
    refine ⟨_, (pss_cons (ps_set (i := 1) sc_split_cells.nd rfl (Or.inl rfl) (pe_lst pa_nil))
      (pss_cons (ps_set (i := 2) sc_split_cells.nd rfl (Or.inl rfl) pe_int)
      (pss_cons (ps_for PassesOwn.never rfl (pi_tupK K rfl (pe_glob (v := .ref Z.a_COLUMNS) (by rfl) T.g_COLUMNS rfl)) (by exact (pg_tupK K (n := 2) rfl rfl (pgs_cons (pg_name (i := 3) sc_split_cells.nd rfl (Or.inl rfl)) (pgs_cons (pg_name (i := 4) sc_split_cells.nd rfl (Or.inl rfl)) pgs_nil)))) (pss_cons (ps_expr (pe_bm PySem.F.plainAttrs_list PySem.F.slot_list_append PySem.F.type_list_append mt_append (pv 1) (pa_cons (pe_m1 PySem.F.slot_str_lstrip PySem.F.type_str_lstrip mt_ls (pe_slice (r := C8.rSlX) C8.sl_txt (pv 0) (po_some (pv 2)) (po_some (pe_op op_add (pv 2) (pv 4)))) pe_str) pa_nil)))
      (pss_one (ps_aug (i := 2) sc_split_cells.nd rfl (Or.inl rfl) (pv 4) in_add))))
      (pss_one (ps_ret (pv 1)))))), ?_⟩
    refine q_asgL (el_lst ea_nil (by show 0 ≤ 100000; decide)) fun A H1 nA e1 hA => ?_
    refine q_asg ev_c fun H2 e2 => ?_
    have z5 : ∀ i, i < 5 → ((((cellsW ws5 l).take i).map vs_).length : Nat) < 100000 := fun i hi => by
      rw [List.length_map, List.length_take]; omega
    refine q_forCol ev_c T.co_COLUMNS (fun i σ' H' => (∃ x y, σ' = [some (vs_ l), some (.ref A), some (.int ((off5 i : Nat) : Int)), x, y]) ∧ Ex H H' ∧ H' A = some (.lst (((cellsW ws5 l).take i).map vs_))) (fun H3 e3 => ⟨⟨_, _, rfl⟩, (e1.trans e2).trans e3, e3 _ _ (e2 _ _ hA)⟩) ?_ ?_
    · rintro i σ' H' hi ⟨⟨_, _, rfl⟩, eH, hL⟩
      refine q_app hL (ev_var rfl) (v := vs_ (lst ((l.drop (off5 i)).take (ws5.getD i 0)))) (ev_is (ev_ls (ev_mid (i := ((off5 i : Nat) : Int)) (j := ((off5 i : Nat) : Int) + ((ws5.getD i 0 : Nat) : Int)) (ev_var rfl) (ev_var rfl) (ev_op (ev_var rfl) (ev_var rfl) rv_I0) (by omega) (by omega) hl) (ev_cS (by decide +kernel)) (by rw [List.length_take, List.length_drop]; omega)) ?_) (z5 i hi) fun H3 e3 => ?_
      · rw [Int.toNat_natCast, show (((off5 i : Nat) : Int) + ((ws5.getD i 0 : Nat) : Int) - ((off5 i : Nat) : Int)).toNat = ws5.getD i 0 by omega]
      refine s_aug (i := 2) (f := fun a b => a + b) rfl (ev_var rfl) fun H4 e4 => ⟨⟨some (vs_ (hdr5.getD i [])), some (.int ((ws5.getD i 0 : Nat) : Int)), ?_⟩, ?_, ?_⟩
      · rw [off_succ i hi, Int.natCast_add]; rfl
      · exact (Ex.mut (eH.trans e3) nA).trans e4
      · rw [cell_at l i hi, List.map_append]
        exact e4 _ _ upd_same
    · rintro σ' H' ⟨⟨_, _, rfl⟩, eH, hL⟩
      have e5 : (cellsW ws5 l).take 5 = cellsW ws5 l := List.take_of_length_le (by rw [cellsW_len]; decide)
      rw [e5] at hL
      exact s_ret (ev_var rfl) fun H3 e3 => k A H3 nA (eH.trans e3) (e3 _ _ hL)
end Sw
namespace Sw
open PySem PySem.Spec PyProof.Rows L2 Evl LamX NdefX SX
local macro_rules | `(tactic| walk_at "ev") => `(tactic| first
  | exact ev_c
  | exact ev_var rfl
  | ((with_reducible show Ev (tCB rMax2 _) _ _ _); exact ev_maxi (by walk_at "ev") (by walk_at "ev"))
  | ((with_reducible show Ev (tCB rMn _) _ _ _); exact ev_min2 (by walk_at "ev") (by walk_at "ev"))
  | ((with_reducible show Ev (tUn _ _) _ _ _); exact ev_un (by walk_at "ev") ru_neg)
  | ((with_reducible show Ev (tFld _ _ _) _ _ _); exact ev_fldK (by walk_at "ev") (by assumption))
  | ((with_reducible show Ev (tOp (rI0 _) _ _) _ _ _); exact ev_op (by walk_at "ev") (by walk_at "ev") rv_I0)
  | ((with_reducible show Ev (tOp rEq _ _) _ _ _); exact ev_op (by walk_at "ev") (by walk_at "ev") (rv_eq rfl))
  | ((with_reducible show Ev (tOp rNe _ _) _ _ _); exact ev_op (by walk_at "ev") (by walk_at "ev") (rv_ne rfl)))

section
variable {bs ds ks : List Int}
theorem mis_nn (t : Nat) : 0 ≤ misS bs ds ks t := by unfold misS; omega
theorem thr_nn (h : CoM bs ds ks) (t : Nat) : 0 ≤ thrS bs ds ks t := by
  have e : dayS bs ds ks (t + 1) = stp (dayS bs ds ks t) (bk bs t) (dm bs ds t) (ks.getD (t % bs.length) 0) := rfl
  have k0 := h.kn (t % bs.length)
  unfold thrS solS misS
  rw [e]
  unfold stp
  omega
theorem day_le (h : CoM bs ds ks) (hb : ∀ j, bk bs j ≤ 1000000000) : ∀ t : Nat, dayS bs ds ks t ≤ (t : Int) * 1000000000
  | 0 => by show (0 : Int) ≤ _; simp
  | t + 1 => by
    have ih := day_le h hb t
    have e : dayS bs ds ks (t + 1) = stp (dayS bs ds ks t) (bk bs t) (dm bs ds t) (ks.getD (t % bs.length) 0) := rfl
    have d0 := dayS_nn h t
    have b0 := hb t
    have b1 : 0 ≤ bk bs t := (getD_mem0 h.gd.b0).1
    have m0 : 0 ≤ dm bs ds t := (getD_mem0 h.gd.d0).1
    rw [e]
    unfold stp
    have e2 : ((t + 1 : Nat) : Int) = (t : Int) + 1 := by omega
    rw [e2]
    omega
/-- the numbers of a day -/
def rowN (bs ds : List Int) (life : Int) (t : Nat) : List Nat := [t, (bk bs t).toNat, (solS bs ds (keepL bs life) t).toNat, (misS bs ds (keepL bs life) t).toNat, (thrS bs ds (keepL bs life) t).toNat]
theorem row_small {life : Int} (h : CoM bs ds (keepL bs life)) (hb : ∀ j, bk bs j ≤ 1000000000) (hd : ∀ j, dm bs ds j ≤ 1000000000) {t : Nat} (ht : (t : Int) ≤ 1000000000000000000) :
    0 ≤ bk bs t ∧ 0 ≤ solS bs ds (keepL bs life) t ∧ 0 ≤ misS bs ds (keepL bs life) t ∧ 0 ≤ thrS bs ds (keepL bs life) t ∧ ∀ n ∈ rowN bs ds life t, n < 10 ^ 40 := by
  have b0 : 0 ≤ bk bs t := (getD_mem0 h.gd.b0).1
  have d0 : 0 ≤ dm bs ds t := (getD_mem0 h.gd.d0).1
  have s0 := dayS_nn h t
  have s1 := day_le h hb t
  have n1 := dayS_nn h (t + 1)
  have m0 := mis_nn (bs := bs) (ds := ds) (ks := keepL bs life) t
  have h0 := thr_nn h t
  have b1 := hb t
  have d1 := hd t
  have m1 : misS bs ds (keepL bs life) t ≤ dm bs ds t := by unfold misS; omega
  have e1 : solS bs ds (keepL bs life) t = dm bs ds t - misS bs ds (keepL bs life) t := rfl
  have e2 : thrS bs ds (keepL bs life) t = bk bs t - solS bs ds (keepL bs life) t - (dayS bs ds (keepL bs life) (t + 1) - dayS bs ds (keepL bs life) t) := rfl
  have p40 : (10 : Nat) ^ 40 = 10000000000000000000000000000000000000000 := by decide
  refine ⟨b0, by omega, m0, h0, fun n hn => ?_⟩
  rw [p40]
  unfold rowN at hn
  simp only [List.mem_cons, List.not_mem_nil, or_false] at hn
  rcases hn with rfl | rfl | rfl | rfl | rfl <;> omega
/-- the lines of a report -/
def repL (bs ds : List Int) (life : Int) (a n : Nat) : List (List Nat) := lineW ws5 hdr5 :: (List.range n).map fun j => lineW ws5 ((rowN bs ds life (a + j)).map G)
theorem repL_succ {life : Int} (a n : Nat) : repL bs ds life a (n + 1) = repL bs ds life a n ++ [lineW ws5 ((rowN bs ds life (a + n)).map G)] := by
  unfold repL
  rw [List.range_succ, List.map_append]; rfl
theorem lineW_len : ∀ (ws : List Nat) (cs : List (List Nat)), (∀ w ∈ ws, w ≤ 100) → (∀ c ∈ cs, c.length ≤ 100) → (lineW ws cs).length ≤ ws.length * 100
  | [], _, _, _ => by simp [lineW]
  | _ :: _, [], _, _ => by simp [lineW]
  | w :: ws, c :: cs, h1, h2 => by
    have ih := lineW_len ws cs (fun x hx => h1 x (List.mem_cons_of_mem _ hx)) (fun x hx => h2 x (List.mem_cons_of_mem _ hx))
    have a := padL_le (h1 w List.mem_cons_self) (h2 c List.mem_cons_self)
    show (padL w c ++ lineW ws cs).length ≤ _
    rw [List.length_append, List.length_cons, Nat.succ_mul]
    omega
theorem line_len {ns : List Nat} (h : ∀ n ∈ ns, n < 10 ^ 40) : (lineW ws5 (ns.map G)).length ≤ 500 := lineW_len ws5 _ (by decide) fun c hc => by
  obtain ⟨n, hn, rfl⟩ := List.mem_map.mp hc
  exact Nat.le_trans (g_len (h n hn)) (by decide)
end
section
variable {K : PySem.W.Frag} {σ : L2.St} {H H' : Hp} {ta tb te : TE} {x y z v : V} {xs : List V} {D : Ends} {tu tz : TS} {i : Int}
theorem q_forR2B {D : Ends} {tu tz : TS} {t : TA} {j : Nat} {lo n : Int} (h : EvA t σ H [.int lo, .int n]) (hn : 0 ≤ lo ∧ lo ≤ 2000000000000000000 ∧ 0 ≤ n ∧ n ≤ 2000000000000000000) (Pv : Nat → L2.St → Hp → Prop) (h0 : ∀ H1, Ex H H1 → Pv 0 σ H1)
    (hs : ∀ (i : Nat) σ' H', lo + (i : Int) < n → Pv i σ' H' → tu { D with nx := Pv (i + 1), ct := Pv (i + 1), bk := tz D } (σ'.set j (some (.int (lo + (i : Int))))) H') (hd : ∀ σ' H', Pv (n - lo).toNat σ' H' → tz D σ' H') : tSeq (tFor (iRng2 t) (gName j) tu) tz D σ H :=
  h H (Ex.refl H) _ fun H1 e => ⟨lo, n, rfl, ⟨by omega, by omega, by omega, by omega⟩, for_range (lo := lo) (n := (n - lo).toNat) Pv (h0 H1 e) (fun i σ' H' hi p => hs i σ' H' (by omega) p) hd⟩
theorem q_trip {m n o : Nat} {x y z : V} (h : EvU te σ H [x, y, z]) (k : ∀ H1, Ex H H1 → tz D (((σ.set m (some x)).set n (some y)).set o (some z)) H1) : tSeq (tAsg te (gTup K 3 (gCons (gName m) (gCons (gName n) (gCons (gName o) gNil))))) tz D σ H :=
  h H (Ex.refl _) _ fun p H1 hp e1 h1 => ⟨p, [x, y, z], rfl, st_of h1, rfl, x, [y, z], rfl, y, [z], rfl, z, [], rfl, rfl, k H1 e1⟩
theorem ev_ixW (h : EvW K ta σ H xs) (hb : Ev tb σ H (.int i)) (ha : atI xs i = some v) : Ev (tOp (rIxT K) ta tb) σ H v := fun H1 e Q q =>
  h H1 e _ fun p H2 e2 hp => hb H2 (e.trans e2) _ fun H3 e3 => rv_ixT (K := K) (ex_t e3 hp) ha H3 (Ex.refl H3) Q fun H4 e4 => q H4 ((e2.trans e3).trans e4)
end
variable {P : Program} {w : World} {K : PySem.W.Frag} {mg : Str → Option Value} {base : Heap} {Z : Ad}
theorem spv_or {sp sp' : Sp} {vs : List V} {H : Hp} {z : V} (h : SpV sp vs H z) : SpV (spOr sp sp') vs H z := fun H1 e Q q E => .inl (h H1 e Q q E)
theorem q_rz {σ : L2.St} {H : Hp} {t : TA} {vs : List V} {sp : Sp} {E : XK} {Q : VK} (ha : EvA t σ H vs) (h : ∀ H1, Ex H H1 → ∀ Q, sp vs H1 Q E) : tCall sp [] E t σ H Q := ha H (Ex.refl H) _ fun H1 e1 => by
  show sp (vs ++ []) H1 Q E
  rw [List.append_nil]; exact h H1 e1 Q
def sp_Bbakes (K : PySem.W.Frag) (Z : Ad) : Sp := fun vs H Q _ => ∃ (b : Addr) (bs ds : List Int) (life : Int) (i : Nat), vs = [.ref b] ∧ BakAt K Z H b bs ds life i ∧ ∀ p H', Ex H H' → SqT K H' p (bs.map V.int) → Q (.ref p) H'
theorem ok_Bakery_bakes (T : Txt K mg Z) : FnOk P w K mg base CX0 1 Z.f_Bakery_bakes Z.d_Bakery_bakes p_Bakery_bakes (sp_Bbakes K Z) := by
  refine T.F_Bakery_bakes.ok sc_Bakery_bakes (fun vs H Q E h => ?_) (fun cdv Ar outer s H vs Q E hr h => ?_)
  · obtain ⟨b, bs, ds, life, i, rfl, _⟩ := h
    rfl
  · obtain ⟨b, bs, ds, life, i, rfl, hB, k⟩ := h
    obtain ⟨tl, fl, hl⟩ := hB.fb
    refine ⟨_, (pss_one (ps_ret (pe_fldK K rfl (pv 0) rfl))), ?_⟩
    exact s_ret (by walk_at "ev") fun H1 e1 => k tl H1 e1 (ex_t e1 hl)
/-! ### a number out of its range -/
def sp_numX (Z : Ad) : Sp := fun vs H _ E => ∃ n lo hi : Int, vs = [.int n, .int lo, .int hi] ∧ (n < lo ∨ hi < n) ∧ n.natAbs < 10 ^ 30 ∧ lo.natAbs < 10 ^ 30 ∧ hi.natAbs < 10 ^ 30 ∧ ∀ H', Ex H H' → E (.ref Z.c_InvalidNumber) none H'
theorem log_sm {i : Int} (h : i.natAbs < 10 ^ 30) : i.natAbs.log2 < 1920 := by
  rcases Nat.eq_zero_or_pos i.natAbs with q | q
  · rw [q]; decide
  · exact (Nat.log2_lt (by omega)).mpr (Nat.lt_of_lt_of_le h (by decide))
theorem len_sm {i : Int} (h : i.natAbs < 10 ^ 30) : (Str.ofString (toString i)).length ≤ 31 := by
  rw [PySem.ofString_length]
  exact int_text_length_le10 (k := 30) (by decide) h
theorem okX_check_number (T : Txt K mg Z) (hP : P = Z.P) : FnOk P w K mg base (L2.CX P w) 1 Z.f_check_number Z.d_check_number p_check_number (sp_numX Z) := by
  refine T.F_check_number.okX sc_check_number (fun vs H Q E h => ?_) (fun cdv Ar outer s H vs Q E hr h => ?_)
  · obtain ⟨n, lo, hi, rfl, _⟩ := h
    rfl
  · obtain ⟨n, lo, hi, rfl, hb, h1, h2, h3, k⟩ := h
    refine ⟨_, (pss_one (ps_if (PW.pt (pw_or (pt_cmpR op_lt (pv 0) (pv 1) (nomark _)) (pw_or1 (pt_cmpR op_gt (pv 0) (pv 2) (nomark _))))) (pss_one (ps_raise rfl (takes_of rfl rfl rfl rfl) (pmk_ownA PySem.F.excBase_ValueError T.xp_InvalidNumber T.g_InvalidNumber T.xq_InvalidNumber (raises_own T.xb_InvalidNumber T.xy_InvalidNumber) (by rfl) (pa_cons (pe_joined (.cons (pe_fmt (pv 0)) (.cons pe_str (.cons (pe_fmt (pv 1)) (.cons pe_str (.cons (pe_fmt (pv 2)) .nil)))))) pa_nil)))) pss_nil)), ?_⟩
    refine s_when (b := true) (et_is (et_or (et_test (by walk_at "ev")) fun _ => et_test (by walk_at "ev")) (by simp; omega)) (fun _ H1 e1 => ?_) fun hb => nomatch hb
    have hz := sizeLine_eq
    have a1 := len_sm h1
    have a2 := len_sm h2
    have a3 := len_sm h3
    have l0 : Str.empty.length = 0 := rfl
    have l1 : (Str.ofString " is not from ").length = 13 := by decide +kernel
    have l2 : (Str.ofString " to ").length = 4 := by decide +kernel
    refine ⟨_, rfl, .inr ⟨n, rfl, log_sm h1, _, rfl, ?_, _, rfl, ?_, _, rfl, .inr ⟨lo, rfl, log_sm h2, _, rfl, ?_, _, rfl, ?_, _, rfl, .inr ⟨hi, rfl, log_sm h3, _, rfl, ?_, by show 1 ≤ sizeLine; omega, k H1 e1⟩⟩⟩⟩
    · rw [Str.length_append]; omega
    · simp only [Str.length_append]; omega
    · simp only [Str.length_append]; omega
    · simp only [Str.length_append]; omega
    · simp only [Str.length_append]; omega
theorem okM_check_number (T : Txt K mg Z) (hP : P = Z.P) : FnOk P w K mg base (L2.CX P w) 1 Z.f_check_number Z.d_check_number p_check_number (spOr sp_num (sp_numX Z)) := fn_or (fn_lift (ok_check_number T)) (okX_check_number T hP)
section
variable {σ : L2.St} {H : Hp} {ta tb te : TE} {b : Addr} {bs ds : List Int} {life : Int} {i : Nat} {E : XK}
theorem ew_bks (h : Ev ta σ H (.ref b)) (hB : BakAt K Z H b bs ds life i) : EvW K (tProp Z.c_Bakery (sp_Bbakes K Z) [] E ta) σ H (bs.map V.int) := fun H1 e Q q =>
  h H1 e _ fun H2 e2 => let ⟨dx, fs, h1⟩ := hB.inst; ⟨b, dx, fs, rfl, e2 _ _ (e _ _ h1), b, bs, ds, life, i, rfl, hB.mono (e.trans e2), fun p H3 e3 h3 => q p H3 (e2.trans e3) h3⟩
theorem ev_lenW {xs : List V} (h : EvW K ta σ H xs) : Ev (tCB (rLenS K) (tCons ta tNil)) σ H (.int (xs.length : Int)) := fun H1 e Q q => h H1 e _ fun p H2 e2 h2 => ⟨p, xs, rfl, Or.inr h2, q H2 e2⟩
theorem ev_bkW {t : Nat} {tm : TE} (ha : EvW K ta σ H (bs.map V.int)) (h0 : 0 < bs.length) (h1 : Ev tm σ H (.int ((t : Int) % (bs.length : Int)))) : Ev (tOp (rIxT K) ta tm) σ H (.int (bk bs t)) := by
  have e : bk bs t = bs.getD ((t : Int) % (bs.length : Int)).toNat 0 := by
    unfold bk
    rw [(day_split t bs.length h0).2]
  rw [e]
  exact ev_ixW ha h1 (atI_mapI (Int.emod_nonneg _ (by omega)) (Int.emod_lt_of_pos _ (by omega)))
end
theorem ok_Bakery_sold (T : Txt K mg Z) : FnOk P w K mg base CX0 4 Z.f_Bakery_sold Z.d_Bakery_sold p_Bakery_sold (sp_Bday K Z 0) := by
  refine T.F_Bakery_sold.ok sc_Bakery_sold (fun vs H Q E h => ?_) (fun cdv Ar outer s H vs Q E hr h => ?_)
  · obtain ⟨b, bs, ds, life, i, t, rfl, _⟩ := h
    rfl
  · obtain ⟨b, bs, ds, life, i, t, rfl, ht, hB, k⟩ := h
    refine ⟨_, (pss_cons (ps_expr (pe_call (ok_check_number T) (hr.mono (by decide)) (by rfl) T.g_check_number T.F_check_number.kp T.b_check_number .nil pass0 (pa_cons (pv 1) (pa_cons pe_int (pa_cons (pe_glob (v := .int 1000000000000000000) (by rfl) T.g_LAST_DAY ⟨_, rfl⟩) pa_nil)))))
      (pss_one (ps_ret (pe_ix (r := rIxT K) ix_tup (pe_meth (pe_fldK K rfl (pv 0) rfl) T.cl_Course T.m_Course_sales_on (ok_Course_sales_on T) (hr.mono (by decide)) T.b_Course_sales_on .nil pass0 (pa_cons (pv 1) pa_nil)) pe_int (fun _ _ => rfl))))), ?_⟩
    refine q_drop (ev_call (ea_cons (ev_var rfl) (ea_cons ev_c (ea_cons ev_c ea_nil))) (spv_num (by omega) ht)) fun H1 e1 => ?_
    obtain ⟨c, fc, hC⟩ := (hB.mono e1).fc
    obtain ⟨tb, td, tk, s⟩ := hC.sr
    have hs : salesI bs ds (keepL bs life) (gainOf bs ds) (firstOf bs ds (keepL bs life)) (fullOf bs ds (keepL bs life)) (t : Int) = _ := sales_is hB.com t
    refine s_ret (ev_ixNU (i := 0) (v := .int (solS bs ds (keepL bs life) t)) (eu_meth (by walk_at "ev") (hC.nf _ (by decide)) (ea_cons (ev_var rfl) ea_nil) (spu_sales_on s)) ev_c (by rw [hs]; rfl)) fun H2 e2 => k H2 (e1.trans e2)
/-- what is raised: an error of a line, its dict -/
def RaiR (Z : Ad) (i : Int) (H : Hp) (E : XK) : Prop := ∀ d H', Ex H H' → H d = none → H' d = some (.xd [("row", .int i)]) → E (.ref Z.c_InvalidReport) (some d) H'
theorem RaiR.mono {i : Int} {H H' : Hp} {E : XK} (e : Ex H H') (h : RaiR Z i H E) : RaiR Z i H' E := fun d H2 e2 n x => h d H2 (e.trans e2) (fresh_back e n) x
def sp_IR (Z : Ad) : Sp := fun vs H Q _ => ∃ (a : Addr) (i : Int), vs = [.ref a, .int i] ∧ -1000000 < i ∧ i < 1000000 ∧ H a = some (exo a Z.c_InvalidReport none) ∧
  ∀ dx H', H dx = none → dx ≠ a → H' a = some (exo a Z.c_InvalidReport (some dx)) → H' dx = some (exd dx [("row", .int i)]) → (∀ b o, H b = some o → b ≠ a → H' b = some o) → Q .non H'
theorem ok_InvalidReport___init__ (T : Txt K mg Z) (hP : P = Z.P) : FnOk P w K mg base L2.CX0 1 Z.f_InvalidReport___init__ Z.d_InvalidReport___init__ p_InvalidReport___init__ (sp_IR Z) := by
  subst hP
  refine sup_fn (k := 0) (CX := L2.CX0) T.xs_InvalidReport T.ox_InvalidReport rfl sc_InvalidReport___init__ rfl rfl rfl rfl T.b_super (fun _ => rfl) (fun _ _ => rfl) (fun _ => rfl) (fun vs H Q E ⟨a, i, e, _⟩ => by rw [e]; rfl) (fun A outer s H vs Q E hr ⟨a, i, e, h0, h1, ha, k⟩ => ?_)
  subst e
  refine ⟨_, _, a, [.int i], pa_cons (pe_joined (.cons pe_str (.cons (pe_fmt (pv 1)) (.cons pe_str .nil)))) pa_nil, pss_one (ps_ost (pv 0) (pv 1)), rfl, ha, ?_⟩
  have hi : (Str.ofString (toString i)).length ≤ 7 := by
    rw [PySem.ofString_length]
    exact int_text_length_le10 (k := 6) (by decide) (by omega)
  have hz := sizeLine_eq
  have l1 : (Str.ofString "wrong line (row ").length = 16 := by decide +kernel
  have l3 : (Str.ofString ")").length = 1 := by decide +kernel
  have l0 : Str.empty.length = 0 := rfl
  refine ⟨_, rfl, ?_, _, rfl, .inr ⟨i, rfl, log_sm (Nat.lt_of_lt_of_le (show i.natAbs < 1000000 by omega) (by decide)), _, rfl, ?_, _, rfl, ?_, by show 1 ≤ 1000; decide, ha, ?_⟩⟩
  · rw [Str.length_append]; omega
  · simp only [Str.length_append]; omega
  · simp only [Str.length_append]; omega
  refine ⟨_, rfl, _, rfl, a, Z.c_InvalidReport, rfl, T.ox_InvalidReport, T.na_InvalidReport_row, .inl ⟨ha, fun dx hd ne => k dx _ hd ne upd_same ?_ fun b o q n => ?_⟩⟩
  · exact (upd_ne ne).trans upd_same
  · rw [upd_ne n, upd_ne (ne_of_none q hd)]; exact q
theorem rs_rep {σ : L2.St} {H : Hp} {t : TA} {i : Int} {E : XK} (ha : EvA t σ H [.int i]) (h0 : -1000000 < i) (h1 : i < 1000000) (k : RaiR Z i H E) : tMkO Z.c_InvalidReport (sp_IR Z) [] t σ H (fun cls d H' => E cls d H') :=
  ha H (Ex.refl H) _ fun H1 e1 => ⟨by show 1 ≤ 1000; decide, fun a na => ⟨a, i, rfl, h0, h1, upd_same, fun dx H' hd ne x1 x2 x3 => by
    rw [upd_ne ne] at hd
    refine ⟨rfl, dx, _, x1, x2, hd, k dx _ (fun b o q => ?_) (fresh_back e1 hd) upd_same⟩
    have q1 := e1 b o q
    rw [upd_ne (ne_of_none q1 hd), del_ne (ne_of_none q1 na)]
    exact x3 b o ((upd_ne (ne_of_none q1 na)).trans q1) (ne_of_none q1 na)⟩⟩
/-! ### reports -/
def sp_cdays : Sp := fun vs H Q _ => ∃ a b : Int, vs = [.int a, .int b] ∧ 0 ≤ a ∧ a ≤ b ∧ b ≤ 1000000000000000000 ∧ b - a + 1 ≤ 500 ∧ RetV .non H Q
theorem ok_check_days (T : Txt K mg Z) : FnOk P w K mg base CX0 2 Z.f_check_days Z.d_check_days p_check_days sp_cdays := by
  refine T.F_check_days.ok sc_check_days (fun vs H Q E h => ?_) (fun cdv Ar outer s H vs Q E hr h => ?_)
  · obtain ⟨a, b, rfl, _⟩ := h
    rfl
  · obtain ⟨a, b, rfl, h0, h1, h2, h3, k⟩ := h
    refine ⟨_, (pss_cons (ps_expr (pe_call (ok_check_number T) (hr.mono (by decide)) (by rfl) T.g_check_number T.F_check_number.kp T.b_check_number .nil pass0 (pa_cons (pv 0) (pa_cons pe_int (pa_cons (pe_glob (v := .int 1000000000000000000) (by rfl) T.g_LAST_DAY ⟨_, rfl⟩) pa_nil)))))
      (pss_cons (ps_expr (pe_call (ok_check_number T) (hr.mono (by decide)) (by rfl) T.g_check_number T.F_check_number.kp T.b_check_number .nil pass0 (pa_cons (pv 1) (pa_cons pe_int (pa_cons (pe_glob (v := .int 1000000000000000000) (by rfl) T.g_LAST_DAY ⟨_, rfl⟩) pa_nil)))))
      (pss_one (ps_expr (pe_call (ok_check_number T) (hr.mono (by decide)) (by rfl) T.g_check_number T.F_check_number.kp T.b_check_number .nil pass0 (pa_cons (pe_op op_add (pe_op op_sub (pv 1) (pv 0)) pe_int) (pa_cons pe_int (pa_cons (pe_glob (v := .int 500) (by rfl) T.g_MOST_REPORT_DAYS ⟨_, rfl⟩) pa_nil)))))))), ?_⟩
    refine q_drop (ev_call (ea_cons (ev_var rfl) (ea_cons ev_c (ea_cons ev_c ea_nil))) (spv_num h0 (by omega))) fun H1 e1 => ?_
    refine q_drop (ev_call (ea_cons (ev_var rfl) (ea_cons ev_c (ea_cons ev_c ea_nil))) (spv_num (by omega) h2)) fun H2 e2 => ?_
    exact s_drop (ev_call (ea_cons (by walk_at "ev") (ea_cons ev_c (ea_cons ev_c ea_nil))) (spv_num (by omega) h3)) fun H3 e3 => k H3 ((e1.trans e2).trans e3)
def sp_cdaysX (Z : Ad) : Sp := fun vs H _ E => ∃ a b : Int, vs = [.int a, .int b] ∧ -10000 < a ∧ a < 10000 ∧ -10000 < b ∧ b < 10000 ∧ (a < 0 ∨ b < 0 ∨ b - a + 1 < 1 ∨ 500 < b - a + 1) ∧ ∀ H', Ex H H' → E (.ref Z.c_InvalidNumber) none H'
theorem okX_check_days (T : Txt K mg Z) (hP : P = Z.P) : FnOk P w K mg base (L2.CX P w) 2 Z.f_check_days Z.d_check_days p_check_days (sp_cdaysX Z) := by
  refine T.F_check_days.okX sc_check_days (fun vs H Q E h => ?_) (fun cdv Ar outer s H vs Q E hr h => ?_)
  · obtain ⟨a, b, rfl, _⟩ := h
    rfl
  · obtain ⟨a, b, rfl, a0, a1, b0, b1, hb, k⟩ := h
    have sm : ∀ {i : Int}, -100000 < i → i < 100000 → i.natAbs < 10 ^ 30 := fun h1 h2 => Nat.lt_of_lt_of_le (show _ < 100000 by omega) (by decide)
    refine ⟨_, (pss_cons (ps_expr (pe_call (okM_check_number T hP) (hr.mono (by decide)) (by rfl) T.g_check_number T.F_check_number.kp T.b_check_number .nil (passes_call (takes_of rfl rfl rfl rfl) (fun _ _ _ _ h => h)) (pa_cons (pv 0) (pa_cons pe_int (pa_cons (pe_glob (v := .int 1000000000000000000) (by rfl) T.g_LAST_DAY ⟨_, rfl⟩) pa_nil)))))
      (pss_cons (ps_expr (pe_call (okM_check_number T hP) (hr.mono (by decide)) (by rfl) T.g_check_number T.F_check_number.kp T.b_check_number .nil (passes_call (takes_of rfl rfl rfl rfl) (fun _ _ _ _ h => h)) (pa_cons (pv 1) (pa_cons pe_int (pa_cons (pe_glob (v := .int 1000000000000000000) (by rfl) T.g_LAST_DAY ⟨_, rfl⟩) pa_nil)))))
      (pss_one (ps_expr (pe_call (okM_check_number T hP) (hr.mono (by decide)) (by rfl) T.g_check_number T.F_check_number.kp T.b_check_number .nil (passes_call (takes_of rfl rfl rfl rfl) (fun _ _ _ _ h => h)) (pa_cons (pe_op op_add (pe_op op_sub (pv 1) (pv 0)) pe_int) (pa_cons pe_int (pa_cons (pe_glob (v := .int 500) (by rfl) T.g_MOST_REPORT_DAYS ⟨_, rfl⟩) pa_nil)))))))), ?_⟩
    by_cases ha : a < 0
    · exact q_rz (ea_cons (ev_var rfl) (ea_cons ev_c (ea_cons ev_c ea_nil))) fun H1 e1 Q => .inr ⟨a, 0, 1000000000000000000, rfl, .inl ha, sm (by omega) (by omega), by decide, by decide, fun H2 e2 => k H2 (e1.trans e2)⟩
    refine q_drop (ev_call (ea_cons (ev_var rfl) (ea_cons ev_c (ea_cons ev_c ea_nil))) (spv_or (spv_num (by omega) (by omega)))) fun H1 e1 => ?_
    by_cases hb0 : b < 0
    · exact q_rz (ea_cons (ev_var rfl) (ea_cons ev_c (ea_cons ev_c ea_nil))) fun H2 e2 Q => .inr ⟨b, 0, 1000000000000000000, rfl, .inl hb0, sm (by omega) (by omega), by decide, by decide, fun H3 e3 => k H3 ((e1.trans e2).trans e3)⟩
    refine q_drop (ev_call (ea_cons (ev_var rfl) (ea_cons ev_c (ea_cons ev_c ea_nil))) (spv_or (spv_num (by omega) (by omega)))) fun H2 e2 => ?_
    exact q_rz (vs := [.int (b - a + 1), .int 1, .int 500]) (ea_cons (by walk_at "ev") (ea_cons ev_c (ea_cons ev_c ea_nil))) fun H3 e3 Q => .inr ⟨b - a + 1, 1, 500, rfl, by omega, sm (by omega) (by omega), by decide, by decide, fun H4 e4 => k H4 (((e1.trans e2).trans e3).trans e4)⟩
theorem okM_check_days (T : Txt K mg Z) (hP : P = Z.P) : FnOk P w K mg base (L2.CX P w) 2 Z.f_check_days Z.d_check_days p_check_days (spOr sp_cdays (sp_cdaysX Z)) := fn_or (fn_lift (ok_check_days T)) (okX_check_days T hP)
def sp_report (K : PySem.W.Frag) (Z : Ad) : Sp := fun vs H Q _ => ∃ (b : Addr) (bs ds : List Int) (life : Int) (i a n : Nat), vs = [.ref b, .int (a : Int), .int ((a : Int) + (n : Int))] ∧ BakAt K Z H b bs ds life i ∧ (∀ j, bk bs j ≤ 1000000000) ∧ (∀ j, dm bs ds j ≤ 1000000000) ∧
  (a : Int) + (n : Int) ≤ 1000000000000000000 ∧ n < 500 ∧ RetV (vs_ (TL.joinL [10] (repL bs ds life a (n + 1)))) H Q
theorem ok_report (T : Txt K mg Z) : FnOk P w K mg base CX0 4 Z.f_report Z.d_report p_report (sp_report K Z) := by
  refine T.F_report.ok sc_report (fun vs H Q E h => ?_) (fun cdv Ar outer s H vs Q E hr h => ?_)
  · obtain ⟨b, bs, ds, life, i, a, n, rfl, _⟩ := h
    rfl
  · obtain ⟨b, bs, ds, life, i, a, n, rfl, hB, hb, hd, han, hn, k⟩ := h
    have h0 := hB.gd.n0
    have cm := hB.com
    refine ⟨_, (pss_cons (ps_expr (pe_call (ok_check_days T) (hr.mono (by decide)) (by rfl) T.g_check_days T.F_check_days.kp T.b_check_days .nil pass0 (pa_cons (pv 1) (pa_cons (pv 2) pa_nil))))
      (pss_cons (ps_set (i := 3) sc_report.nd rfl (Or.inl rfl) (pe_lst (pa_cons (pe_call0 (ok_first_line T) (hr.mono (by decide)) (by rfl) T.g_first_line T.F_first_line.kp T.b_first_line .nil pass0) pa_nil)))
      (pss_cons (ps_for PassesOwn.never rfl (pi_range2 (by rfl) T.b_range (pa_cons (pv 1) (pa_cons (pe_op op_add (pv 2) pe_int) pa_nil))) (pg_name (i := 4) sc_report.nd rfl (Or.inl rfl)) (pss_cons (ps_set (i := 5) sc_report.nd rfl (Or.inl rfl) (pe_ix (r := rIxT K) ix_tup (pe_prop (pv 0) T.cl_Bakery T.pp_Bakery_bakes (ok_Bakery_bakes T) (hr.mono (by decide)) T.b_Bakery_bakes .nil pass0 rfl) (pe_op op_mod (pv 4) (pe_callB (r := rLenS K) (call_len_seq) (by rfl) T.b_len boot_len (pa_cons (pe_prop (pv 0) T.cl_Bakery T.pp_Bakery_bakes (ok_Bakery_bakes T) (hr.mono (by decide)) T.b_Bakery_bakes .nil pass0 rfl) pa_nil))) (fun _ _ => rfl)))
      (pss_cons (ps_asg (pe_meth (pe_fldK K rfl (pv 0) rfl) T.cl_Course T.m_Course_sales_on (ok_Course_sales_on T) (hr.mono (by decide)) T.b_Course_sales_on .nil pass0 (pa_cons (pv 4) pa_nil)) (by exact (pg_tupK K (n := 3) rfl rfl (pgs_cons (pg_name (i := 6) sc_report.nd rfl (Or.inl rfl)) (pgs_cons (pg_name (i := 7) sc_report.nd rfl (Or.inl rfl)) (pgs_cons (pg_name (i := 8) sc_report.nd rfl (Or.inl rfl)) pgs_nil))))))
      (pss_one (ps_expr (pe_bm PySem.F.plainAttrs_list PySem.F.slot_list_append PySem.F.type_list_append mt_append (pv 3) (pa_cons (pe_call (ok_print_numbers T) (hr.mono (by decide)) (by rfl) T.g_print_numbers T.F_print_numbers.kp T.b_print_numbers .nil pass0 (pa_cons (pe_lst (pa_cons (pv 4) (pa_cons (pv 5) (pa_cons (pv 6) (pa_cons (pv 7) (pa_cons (pv 8) pa_nil)))))) pa_nil)) pa_nil)))))))
      (pss_one (ps_ret (pe_m1 PySem.F.slot_str_join PySem.F.type_str_join (mt_jn K rfl) pe_str (pv 3))))))), ?_⟩
    refine q_drop (ev_call (ea_cons (ev_var rfl) (ea_cons (ev_var rfl) ea_nil)) (fun _ e Q q E => ⟨(a : Int), (a : Int) + (n : Int), rfl, by omega, by omega, by omega, by omega, q⟩)) fun H1 e1 => ?_
    refine q_asgL (xs := [vs_ (lineW ws5 hdr5)]) (el_lst (ea_cons (ev_call ea_nil spv_first) ea_nil) (by show 1 ≤ 100000; decide)) fun A H2 nA e2 hA => ?_
    have nH : H A = none := fresh_back e1 nA
    have szr : ∀ j, j < n + 1 → ((repL bs ds life a j).map vs_).length < 100000 := fun j hj => by
      unfold repL
      rw [List.length_map, List.length_cons, List.length_map, List.length_range]; omega
    refine q_forR2B (lo := (a : Int)) (n := (a : Int) + (n : Int) + 1) (ea_cons (ev_var rfl) (ea_cons (by walk_at "ev") ea_nil)) ⟨by omega, by omega, by omega, by omega⟩
      (fun j σ' H' => (∃ x4 x5 x6 x7 x8, σ' = [some (.ref b), some (.int (a : Int)), some (.int ((a : Int) + (n : Int))), some (.ref A), x4, x5, x6, x7, x8]) ∧ Ex H H' ∧ H' A = some (.lst ((repL bs ds life a j).map vs_))) (fun H3 e3 => ⟨⟨_, _, _, _, _, rfl⟩, (e1.trans e2).trans e3, e3 _ _ hA⟩) ?_ ?_
    · rintro j σ' H' hj ⟨⟨_, _, _, _, _, rfl⟩, eH, hL⟩
      have ej : (a : Int) + (j : Int) = ((a + j : Nat) : Int) := by omega
      rw [ej]
      have hBj := hB.mono eH
      refine q_asg (v := .int (bk bs (a + j))) (ev_bkW (ew_bks (ev_var rfl) hBj) h0 (ev_op (ev_var rfl) (Ev.int_eq (ev_lenW (ew_bks (ev_var rfl) hBj)) (by rw [List.length_map])) (rv_I (by show (0 : Int) < (bs.length : Int); omega)))) fun H3 e3 => ?_
      have hB3 := hBj.mono e3
      obtain ⟨c, fc, hC⟩ := hB3.fc
      obtain ⟨tb, td, tk, s⟩ := hC.sr
      have hs : salesI bs ds (keepL bs life) (gainOf bs ds) (firstOf bs ds (keepL bs life)) (fullOf bs ds (keepL bs life)) ((a + j : Nat) : Int) = _ := sales_is cm (a + j)
      refine q_trip (x := .int (solS bs ds (keepL bs life) (a + j))) (y := .int (misS bs ds (keepL bs life) (a + j))) (z := .int (thrS bs ds (keepL bs life) (a + j))) (eu_meth (ev_fldK (ev_var rfl) fc) (hC.nf _ (by decide)) (ea_cons (ev_var rfl) ea_nil) (by
        have q := spu_sales_on s (day := ((a + j : Nat) : Int))
        rw [hs] at q
        exact q)) fun H4 e4 => ?_
      obtain ⟨z1, z2, z3, z4, z5⟩ := row_small cm hb hd (t := a + j) (by omega)
      refine s_app (v := vs_ (lineW ws5 ((rowN bs ds life (a + j)).map G))) (e4 _ _ (e3 _ _ hL)) (ev_var rfl) (ev_call1L (xs := (rowN bs ds life (a + j)).map vn) (el_is (el_lst (ea_cons (ev_var rfl) (ea_cons (ev_var rfl) (ea_cons (ev_var rfl) (ea_cons (ev_var rfl) (ea_cons (ev_var rfl) ea_nil))))) (by show 5 ≤ 100000; decide)) ?_) fun p G1 e hp => spv_print (sq_of hp) rfl z5) (szr j (by omega)) fun H5 e5 => ?_
      · unfold rowN vn
        simp only [List.map_cons, List.map_nil]
        rw [Int.toNat_of_nonneg z1, Int.toNat_of_nonneg z2, Int.toNat_of_nonneg z3, Int.toNat_of_nonneg z4]
      · exact ⟨⟨_, _, _, _, _, rfl⟩, Ex.mut (((eH.trans e3).trans e4).trans e5) nH, by rw [repL_succ, List.map_append]; exact upd_same⟩
    · rintro σ' H' ⟨⟨_, _, _, _, _, rfl⟩, eH, hL⟩
      have en : ((a : Int) + (n : Int) + 1 - (a : Int)).toNat = n + 1 := by omega
      rw [en] at hL
      refine s_ret (ev_jnV (ls := repL bs ds life a (n + 1)) (c := [10]) (ev_cS (by decide +kernel)) (ev_var rfl) (sq_of hL) ?_) fun H3 e3 => k H3 (eH.trans e3)
      have l1 : (repL bs ds life a (n + 1)).length = n + 2 := by unfold repL; rw [List.length_cons, List.length_map, List.length_range]
      have s1 := sum_le (B := 500) (repL bs ds life a (n + 1)) fun x hx => by
        unfold repL at hx
        rcases List.mem_cons.mp hx with rfl | hx
        · decide
        · obtain ⟨j, hj, rfl⟩ := List.mem_map.mp hx
          have hj := List.mem_range.mp hj
          exact line_len (row_small cm hb hd (t := a + j) (by omega)).2.2.2.2
      rw [l1] at s1 ⊢
      have : ([10] : List Nat).length = 1 := rfl
      rw [this]
      omega
def sp_reportX (K : PySem.W.Frag) (Z : Ad) : Sp := fun vs H _ E => ∃ (b : Addr) (x y : Int), vs = [.ref b, .int x, .int y] ∧ -10000 < x ∧ x < 10000 ∧ -10000 < y ∧ y < 10000 ∧ (x < 0 ∨ y < 0 ∨ y - x + 1 < 1 ∨ 500 < y - x + 1) ∧ ∀ H', Ex H H' → E (.ref Z.c_InvalidNumber) none H'
theorem okX_report (T : Txt K mg Z) (hP : P = Z.P) : FnOk P w K mg base (L2.CX P w) 4 Z.f_report Z.d_report p_report (sp_reportX K Z) := by
  refine T.F_report.okX sc_report (fun vs H Q E h => ?_) (fun cdv Ar outer s H vs Q E hr h => ?_)
  · obtain ⟨b, x, y, rfl, _⟩ := h
    rfl
  · obtain ⟨b, x, y, rfl, h1, h2, h3, h4, hb, k⟩ := h
    refine ⟨_, (pss_cons (ps_expr (pe_call (okM_check_days T hP) (hr.mono (by decide)) (by rfl) T.g_check_days T.F_check_days.kp T.b_check_days .nil (passes_call (takes_of rfl rfl rfl rfl) (fun _ _ _ _ h => h)) (pa_cons (pv 1) (pa_cons (pv 2) pa_nil))))
      (pss_cons (ps_set (i := 3) sc_report.nd rfl (Or.inl rfl) (pe_lst (pa_cons (pe_call0 (ok_first_line T) (hr.mono (by decide)) (by rfl) T.g_first_line T.F_first_line.kp T.b_first_line .nil pass0) pa_nil)))
      (pss_cons (ps_for (passes_of rfl) rfl (pi_range2 (by rfl) T.b_range (pa_cons (pv 1) (pa_cons (pe_op op_add (pv 2) pe_int) pa_nil))) (pg_name (i := 4) sc_report.nd rfl (Or.inl rfl)) (pss_cons (ps_set (i := 5) sc_report.nd rfl (Or.inl rfl) (pe_ix (r := rIxT K) ix_tup (pe_prop (pv 0) T.cl_Bakery T.pp_Bakery_bakes (ok_Bakery_bakes T) (hr.mono (by decide)) T.b_Bakery_bakes .nil pass0 rfl) (pe_op op_mod (pv 4) (pe_callB (r := rLenS K) (call_len_seq) (by rfl) T.b_len boot_len (pa_cons (pe_prop (pv 0) T.cl_Bakery T.pp_Bakery_bakes (ok_Bakery_bakes T) (hr.mono (by decide)) T.b_Bakery_bakes .nil pass0 rfl) pa_nil))) (fun _ _ => rfl)))
      (pss_cons (ps_asg (pe_meth (pe_fldK K rfl (pv 0) rfl) T.cl_Course T.m_Course_sales_on (ok_Course_sales_on T) (hr.mono (by decide)) T.b_Course_sales_on .nil pass0 (pa_cons (pv 4) pa_nil)) (by exact (pg_tupK K (n := 3) rfl rfl (pgs_cons (pg_name (i := 6) sc_report.nd rfl (Or.inl rfl)) (pgs_cons (pg_name (i := 7) sc_report.nd rfl (Or.inl rfl)) (pgs_cons (pg_name (i := 8) sc_report.nd rfl (Or.inl rfl)) pgs_nil))))))
      (pss_one (ps_expr (pe_bm PySem.F.plainAttrs_list PySem.F.slot_list_append PySem.F.type_list_append mt_append (pv 3) (pa_cons (pe_call (ok_print_numbers T) (hr.mono (by decide)) (by rfl) T.g_print_numbers T.F_print_numbers.kp T.b_print_numbers .nil pass0 (pa_cons (pe_lst (pa_cons (pv 4) (pa_cons (pv 5) (pa_cons (pv 6) (pa_cons (pv 7) (pa_cons (pv 8) pa_nil)))))) pa_nil)) pa_nil)))))))
      (pss_one (ps_ret (pe_m1 PySem.F.slot_str_join PySem.F.type_str_join (mt_jn K rfl) pe_str (pv 3))))))), ?_⟩
    exact q_rz (vs := [.int x, .int y]) (ea_cons (ev_var rfl) (ea_cons (ev_var rfl) ea_nil)) fun H1 e1 Q => .inr ⟨x, y, rfl, h1, h2, h3, h4, hb, fun H2 e2 => k H2 (e1.trans e2)⟩
theorem okM_report (T : Txt K mg Z) (hP : P = Z.P) : FnOk P w K mg base (L2.CX P w) 4 Z.f_report Z.d_report p_report (spOr (sp_report K Z) (sp_reportX K Z)) := fn_or (fn_lift (ok_report T)) (okX_report T hP)
end Sw
namespace Sw
open PySem PySem.Spec PyProof.Rows L2 Evl LamX NdefX SX
local macro_rules | `(tactic| walk_at "ev") => `(tactic| first
  | exact ev_c
  | exact ev_var rfl
  | ((with_reducible show Ev (tCB rMax2 _) _ _ _); exact ev_maxi (by walk_at "ev") (by walk_at "ev"))
  | ((with_reducible show Ev (tCB rMn _) _ _ _); exact ev_min2 (by walk_at "ev") (by walk_at "ev"))
  | ((with_reducible show Ev (tUn _ _) _ _ _); exact ev_un (by walk_at "ev") ru_neg)
  | ((with_reducible show Ev (tFld _ _ _) _ _ _); exact ev_fldK (by walk_at "ev") (by assumption))
  | ((with_reducible show Ev (tOp (rI0 _) _ _) _ _ _); exact ev_op (by walk_at "ev") (by walk_at "ev") rv_I0)
  | ((with_reducible show Ev (tOp rEq _ _) _ _ _); exact ev_op (by walk_at "ev") (by walk_at "ev") (rv_eq rfl))
  | ((with_reducible show Ev (tOp rNe _ _) _ _ _); exact ev_op (by walk_at "ev") (by walk_at "ev") (rv_ne rfl)))

/-! ### a line read, a text read -/
def okB (c : List Nat) : Bool := decide (c.filter noC ≠ []) && (c.filter noC).all isD
def digs (l : List Nat) : List Nat := (cellsW ws5 l).map fun c => NumText.digitsVal (c.filter noC)
def rdOne (l : List Nat) : Option (List Nat) := if (cellsW ws5 l).all okB = true ∧ lineW ws5 ((digs l).map G) = l then some (digs l) else none
theorem okB_iff {c : List Nat} : okB c = true ↔ c.filter noC ≠ [] ∧ ∀ x ∈ c.filter noC, isD x = true := by
  unfold okB
  rw [Bool.and_eq_true, decide_eq_true_iff, List.all_eq_true]
theorem LineOk.okc {l ns : List Nat} (h : LineOk l ns) : ∀ c ∈ cellsW ws5 l, okB c = true := fun c hc => by
  obtain ⟨n, _, rfl⟩ := h.cell hc
  rw [okB_iff, g_noC]
  exact ⟨TL.numL_ne n, allD n⟩
theorem LineOk.digs {l ns : List Nat} (h : LineOk l ns) : digs l = ns := by
  unfold Sw.digs
  rw [h.cells, List.map_map]
  have e : ((fun c => NumText.digitsVal (c.filter noC)) ∘ G) = id := by
    funext n
    show NumText.digitsVal ((G n).filter noC) = n
    rw [g_noC, TL.numL_val]
  rw [e, List.map_id]
theorem rdOne_some {l ns : List Nat} : rdOne l = some ns ↔ LineOk l ns := by
  unfold rdOne
  constructor
  · intro h
    by_cases z : (cellsW ws5 l).all okB = true ∧ lineW ws5 ((digs l).map G) = l
    · rw [if_pos z] at h
      cases h
      exact line_prog (fun c hc => okB_iff.mp (List.all_eq_true.mp z.1 c hc)) z.2
    · rw [if_neg z] at h; cases h
  · intro h
    rw [if_pos ⟨List.all_eq_true.mpr h.okc, by rw [h.digs]; exact h.2⟩, h.digs]
theorem rdOne_none {l : List Nat} (h : rdOne l = none) (ns : List Nat) : ¬ LineOk l ns := fun z => by
  rw [rdOne_some.mpr z] at h; cases h
def hdrL : List Nat := lineW ws5 hdr5
/-- the first line that is none; the numbers -/
def repBad (L : List (List Nat)) : Option Nat := if L.getD 0 [] = hdrL then ((L.drop 1).findIdx? fun l => (rdOne l).isNone).map (· + 1) else some 0
def repNums (L : List (List Nat)) : List (List Nat) := (L.drop 1).map fun l => (rdOne l).getD []
theorem spl_le : ∀ (a acc : List Nat), ∀ x ∈ TL.spl [10] 0 acc a, x.length ≤ acc.length + a.length
  | [], acc, x, hx => by
    rw [TL.spl_nil, List.mem_singleton] at hx
    rw [hx]; simp
  | c :: r, acc, x, hx => by
    by_cases h : TL.pre [10] (c :: r) = true
    · rw [TL.spl_hit h] at hx
      rcases List.mem_cons.mp hx with rfl | hx
      · simp
      · have z := spl_le r [] x hx
        simp at z ⊢
        omega
    · have h : TL.pre [10] (c :: r) = false := by simpa using h
      rw [TL.spl_miss h] at hx
      have z := spl_le r (acc ++ [c]) x hx
      rw [List.length_append] at z
      simp at z ⊢
      omega
theorem spl_cnt : ∀ (a acc : List Nat), 1 ≤ (TL.spl [10] 0 acc a).length ∧ (TL.spl [10] 0 acc a).length ≤ a.length + 1
  | [], acc => by rw [TL.spl_nil]; simp
  | c :: r, acc => by
    by_cases h : TL.pre [10] (c :: r) = true
    · rw [TL.spl_hit h]
      have z := spl_cnt r []
      show 1 ≤ (acc :: TL.spl [10] 0 [] r).length ∧ (acc :: TL.spl [10] 0 [] r).length ≤ _
      simp
      exact z.2
    · have h : TL.pre [10] (c :: r) = false := by simpa using h
      rw [TL.spl_miss h]
      have z := spl_cnt r (acc ++ [c])
      simp at z ⊢
      exact ⟨z.1, by omega⟩
theorem cell_len : ∀ (ws l : List Nat), (∀ w ∈ ws, w ≤ 26) → ∀ c ∈ cellsW ws l, c.length ≤ 26
  | [], _, _, c, hc => by cases hc
  | w :: ws, l, h, c, hc => by
    rcases List.mem_cons.mp hc with rfl | hc
    · exact Nat.le_trans (List.dropWhile_sublist _).length_le (by rw [List.length_take]; have := h w List.mem_cons_self; omega)
    · exact cell_len ws _ (fun x hx => h x (List.mem_cons_of_mem _ hx)) c hc
theorem digs_small {l : List Nat} (hd : ∀ c ∈ cellsW ws5 l, okB c = true) : ∀ n ∈ digs l, n < 10 ^ 40 := fun n hn => by
  obtain ⟨c, hc, rfl⟩ := List.mem_map.mp hn
  refine Nat.lt_of_lt_of_le (val_lt _ (okB_iff.mp (hd c hc)).2) (Nat.pow_le_pow_right (by decide) ?_)
  exact Nat.le_trans (List.length_filter_le _ _) (Nat.le_trans (cell_len ws5 l (by decide) c hc) (by decide))
section
variable {K : PySem.W.Frag} {σ : L2.St} {H H' : Hp} {ta tb te to tl : TE} {x y v : V} {xs ys : List V} {l : List Nat} {a A p : Addr}
theorem ev_repl (ho : Ev to σ H (vs_ l)) (hl : l.length ≤ 100000) : Ev (CwR.tReplC to "," "") σ H (vs_ (l.filter noC)) := fun H1 e Q q => ho H1 e _ fun H2 e2 => ⟨S l, rfl, by
  have z : (Str.ofString "").length = 0 := by decide +kernel
  rw [S_len]
  show l.length + (l.length + 1) * (Str.ofString "").length ≤ 16777216
  rw [z]; omega, by
  have z1 : (Str.ofString ",") = S [44] := by decide +kernel
  have z2 : (Str.ofString "") = S [] := by decide +kernel
  show Q (.str (Txt.replace (S l) (Str.ofString ",") (Str.ofString ""))) H2
  rw [z1, z2, replace_S]
  exact q H2 e2⟩
theorem et_dig (ho : Ev to σ H (vs_ l)) : EvT (tNot (tAnd (tB (tM0 rAsc to)) (tB (tM0 rDig to)))) σ H (!(decide (l ≠ []) && l.all isD)) := by
  rw [← digit_S]
  exact et_not (et_and (et_B (ev_asc ho)) fun _ => et_B (ev_dig ho))
theorem eu_tupV (h : Ev ta σ H (.ref A)) (hA : H A = some (.lst xs)) : EvU (tCB (rTupS K) (tCons ta tNil)) σ H xs := fun H1 e Q q => h H1 e _ fun H2 e2 =>
  ⟨A, xs, rfl, .inl ⟨sq_of (e2 _ _ (e _ _ hA)), fun r hr => q r _ (fresh_back e2 hr) (e2.trans (Ex.new hr)) upd_same⟩⟩
theorem cutV_drop (xs : List V) (k : Nat) : cutV xs (some (k : Int)) none = xs.drop k := by
  unfold cutV
  rw [HT.sIx_none, HT.sIx_nat]
  by_cases hk : k ≤ xs.length
  · rw [Nat.min_eq_left hk, List.take_of_length_le (by simp)]
  · rw [Nat.min_eq_right (by omega)]
    simp [List.drop_eq_nil_of_le (Nat.le_of_not_le hk)]
theorem el_dropV {k : Nat} (h : Ev te σ H (.ref a)) (hk : Ev tl σ H (.int (k : Int))) (hs : SqL K H a xs) : EvL (tSl (rSlL K) te (tPart tl) tNoPart) σ H (xs.drop k) := el_is (el_sl h (eo_some hk) eo_none hs) (cutV_drop xs k)
theorem walk_enumF {c : Int} : Walk (ItsF K c a) xs.length (fun H => SqL K H a xs) (YPair (fun i => some (.int (c + ((i : Nat) : Int)))) (fun i => xs[i]?)) := by
  refine ⟨fun i _ hi q => ⟨xs, xs[i], q, by simp⟩, fun _ q => ⟨xs, q, rfl⟩, fun i H v H' _ q h => ?_⟩
  obtain ⟨T, x, h1, h2, h3, h4⟩ := h
  exact ⟨T, _, x, h1, h2, h3, rfl, h4 xs q⟩
end
/-- a list of tuples of numbers -/
def RowsT (H : Hp) (p : Addr) (nss : List (List Nat)) : Prop := ∃ qs : List Addr, H p = some (.lst (qs.map V.ref)) ∧ qs.length = nss.length ∧ ∀ (i : Nat) q, qs[i]? = some q → H q = some (.tup ((nss.getD i []).map vn))
variable {P : Program} {w : World} {K : PySem.W.Frag} {mg : Str → Option Value} {base : Heap} {Z : Ad}
def sp_pline (Z : Ad) : Sp := fun vs H Q E => ∃ (l : List Nat) (row : Nat), vs = [vs_ l, .int (row : Int)] ∧ l.length ≤ 100000 ∧ row < 900000 ∧ ((∃ ns, rdOne l = some ns ∧ RetU (ns.map vn) H Q) ∨ (rdOne l = none ∧ RaiR Z (row : Int) H E))
theorem okT_parse_line (T : Txt K mg Z) (hP : P = Z.P) : FnT P w K mg base (L2.CX P w) 3 Z.f_parse_line Z.d_parse_line p_parse_line (sp_pline Z) := by
  refine FnT.mk' T.F_parse_line sc_parse_line (fun vs H Q E h => ?_) (fun cdv Ar outer s H vs Q E hr h => ?_)
  · obtain ⟨l, row, rfl, _⟩ := h
    rfl
  · obtain ⟨l, row, rfl, hl, hr2, out⟩ := h
    refine ⟨_, (psst_cons (PST.of (ps_set (i := 2) sc_parse_line.nd rfl (Or.inl rfl) (pe_lst pa_nil)))
      (psst_cons (pst_forB (passes_of rfl) rfl (pi_listK K rfl (pe_call (ok_split_cells T) (hr.mono (by decide)) (by rfl) T.g_split_cells T.F_split_cells.kp T.b_split_cells .nil pass0 (pa_cons (pv 0) pa_nil))) (pg_name (i := 3) sc_parse_line.nd rfl (Or.inl rfl)) (psst_cons (pst_set (i := 4) sc_parse_line.nd rfl (Or.inl rfl) (CwR.pet_replC (pv 3)))
      (psst_cons (PST.of (ps_if (pt_not (PW.pt (pw_and (pt_val (pe_m0 PySem.F.slot_str_isascii PySem.F.type_str_isascii mt_asc (pv 4))) (pw_and1 (pt_val (pe_m0 PySem.F.slot_str_isdigit PySem.F.type_str_isdigit mt_dig (pv 4))))))) (pss_one (ps_raise rfl (takes_of rfl rfl rfl rfl) (pmk_oex T.ox_InvalidReport T.xi_InvalidReport T.xt_InvalidReport (ok_InvalidReport___init__ T hP) (hr.mono (by decide)) T.b_InvalidReport___init__ .nil pass0 (by rfl) T.g_InvalidReport (pa_cons (pv 1) pa_nil)))) pss_nil))
      (CwR.psst_one (PST.of (ps_expr (pe_bm PySem.F.plainAttrs_list PySem.F.slot_list_append PySem.F.type_list_append mt_append (pv 2) (pa_cons (pe_callTy (r := rIntS) (cr_intS) (by rfl) T.b_int boot_int (pa_cons (pv 4) pa_nil)) pa_nil))))))))
      (psst_cons (PST.of (ps_if (pt_cmpR op_ne (pe_call (ok_print_numbers T) (hr.mono (by decide)) (by rfl) T.g_print_numbers T.F_print_numbers.kp T.b_print_numbers .nil pass0 (pa_cons (pv 2) pa_nil)) (pv 0) (nomark _)) (pss_one (ps_raise rfl (takes_of rfl rfl rfl rfl) (pmk_oex T.ox_InvalidReport T.xi_InvalidReport T.xt_InvalidReport (ok_InvalidReport___init__ T hP) (hr.mono (by decide)) T.b_InvalidReport___init__ .nil pass0 (by rfl) T.g_InvalidReport (pa_cons (pv 1) pa_nil)))) pss_nil))
      (CwR.psst_one (PST.of (ps_ret (pe_callTy (r := rTupS K) (call_tuple_of) (by rfl) T.b_tuple boot_tuple (pa_cons (pv 2) pa_nil)))))))), ?_⟩
    refine q_asgL (el_lst ea_nil (by show 0 ≤ 100000; decide)) fun A H1 nA e1 hA => ?_
    have c5 := cellsW_len ws5 l
    have bad : ∀ {H' : Hp}, Ex H H' → (∀ ns, rdOne l ≠ some ns) → RaiR Z (row : Int) H' E := fun {H'} e hb => by
      rcases out with ⟨ns, hns, _⟩ | ⟨_, k⟩
      · exact absurd hns (hb ns)
      · exact k.mono e
    refine q_forNLn (j := 3) (el_call (ea_cons (ev_var rfl) ea_nil) (spl_split hl)) (fun p i σ' H' => (∃ x y, σ' = [some (vs_ l), some (.int (row : Int)), some (.ref A), x, y]) ∧ Ex H H' ∧ H' A = some (.lst (((digs l).take i).map vn)) ∧ H' p = some (.lst ((cellsW ws5 l).map vs_)) ∧ p ≠ A ∧ ∀ c ∈ (cellsW ws5 l).take i, okB c = true)
      (fun p H2 np e2 hp => ⟨⟨_, _, rfl⟩, e1.trans e2, e2 _ _ hA, hp, (fun z => by rw [z, hA] at np; cases np), by simp⟩) (fun p i σ' H' _ q => sq_of q.2.2.2.1) ?_ ?_
    · rintro p i x σ' H' hx ⟨⟨_, _, rfl⟩, eH, hL, hp, ne, hok⟩
      obtain ⟨rfl, hi⟩ := at_vs hx
      have hc : (cellsW ws5 l)[i]? = some ((cellsW ws5 l).getD i []) := by simp [List.getD, hi]
      have hm : (cellsW ws5 l).getD i [] ∈ cellsW ws5 l := List.mem_of_getElem? hc
      have tk : (cellsW ws5 l).take (i + 1) = (cellsW ws5 l).take i ++ [(cellsW ws5 l).getD i []] := by rw [List.take_add_one, hc]; rfl
      have td : (digs l).take (i + 1) = (digs l).take i ++ [NumText.digitsVal (((cellsW ws5 l).getD i []).filter noC)] := by
        unfold digs
        rw [← List.map_take, ← List.map_take, tk, List.map_append]; rfl
      generalize (cellsW ws5 l).getD i [] = c at hc hm tk td ⊢
      have lc := cell_len ws5 l (by decide) c hm
      refine q_asg (v := vs_ (c.filter noC)) (ev_repl (ev_var rfl) (by omega)) fun H3 e3 => ?_
      refine q_when (et_dig (l := c.filter noC) (ev_var rfl)) (fun hb H4 e4 => ?_) fun hb H4 e4 => ?_
      · refine rs_rep (i := (row : Int)) (ea_cons (ev_var rfl) ea_nil) (by omega) (by omega) (bad ((eH.trans e3).trans e4) fun ns h => ?_)
        have z := (rdOne_some.mp h).okc c hm
        unfold okB at z
        rw [z] at hb; cases hb
      · have z : okB c = true := by unfold okB; simpa using hb
        have z2 := okB_iff.mp z
        refine s_app (v := .int ((NumText.digitsVal (c.filter noC) : Nat) : Int)) (e4 _ _ (e3 _ _ hL)) (ev_var rfl) (ev_intS (l := c.filter noC) (ev_var rfl) z2.2 z2.1 (Nat.le_trans (List.length_filter_le _ _) (by omega))) (by rw [List.length_map, List.length_take]; unfold digs; rw [List.length_map, c5]; show min i 5 < 100000; omega) fun H5 e5 => ?_
        refine ⟨⟨_, _, rfl⟩, Ex.mut (((eH.trans e3).trans e4).trans e5) nA, by rw [td, List.map_append]; exact upd_same, (upd_ne ne).trans (e5 _ _ (e4 _ _ (e3 _ _ hp))), ne, fun d hd => ?_⟩
        rw [tk] at hd
        rcases List.mem_append.mp hd with q | q
        · exact hok d q
        · rw [List.mem_singleton.mp q]; exact z
    · rintro p σ' H' ⟨⟨_, _, rfl⟩, eH, hL, hp, ne, hok⟩
      have e5 : ((cellsW ws5 l).map vs_).length = 5 := by rw [List.length_map, c5]; rfl
      rw [e5] at hL hok
      rw [List.take_of_length_le (by rw [c5]; decide)] at hok
      have dl : (digs l).length = 5 := by unfold digs; rw [List.length_map, c5]; rfl
      rw [List.take_of_length_le (by omega)] at hL
      refine q_when (b := !decide (lineW ws5 ((digs l).map G) = l)) (et_test (ev_op (ev_call (ea_cons (ev_var rfl) ea_nil) (spv_print (sq_of hL) dl (digs_small hok))) (ev_var rfl) rv_neS)) (fun hb H3 e3 => ?_) fun hb H3 e3 => ?_
      · refine rs_rep (i := (row : Int)) (ea_cons (ev_var rfl) ea_nil) (by omega) (by omega) (bad (eH.trans e3) fun ns h => ?_)
        have z := rdOne_some.mp h
        have z2 := z.2
        rw [← z.digs] at z2
        rw [decide_eq_true z2] at hb; cases hb
      · have hq : lineW ws5 ((digs l).map G) = l := by simpa using hb
        have hs : rdOne l = some (digs l) := by
          unfold rdOne
          rw [if_pos ⟨List.all_eq_true.mpr hok, hq⟩]
        refine s_retU (eu_tupV (ev_var rfl) (e3 _ _ hL)) fun r H4 nr e4 h4 => ?_
        rcases out with ⟨ns, hns, k⟩ | ⟨hn, _⟩
        · rw [hs] at hns
          cases hns
          exact k r H4 (fresh_back (eH.trans e3) nr) ((eH.trans e3).trans e4) h4
        · rw [hs] at hn; cases hn
/-! ### parse_report -/
def RepOut (Z : Ad) (L : List (List Nat)) (H : Hp) (Q : VK) (E : XK) : Prop := (∀ r, repBad L = some r → RaiR Z (r : Int) H E) ∧ (repBad L = none → ∀ p H2, Ex H H2 → RowsT H2 p (repNums L) → Q (.ref p) H2)
def sp_prep (Z : Ad) : Sp := fun vs H Q E => ∃ t : List Nat, vs = [vs_ t] ∧ t.length ≤ 30000 ∧ RepOut Z (TL.spl [10] 0 [] t) H Q E
theorem okX_parse_report (T : Txt K mg Z) (hP : P = Z.P) : FnOk P w K mg base (L2.CX P w) 4 Z.f_parse_report Z.d_parse_report p_parse_report (sp_prep Z) := by
  refine T.F_parse_report.okX sc_parse_report (fun vs H Q E h => ?_) (fun cdv Ar outer s H vs Q E hr h => ?_)
  · obtain ⟨t, rfl, _⟩ := h
    rfl
  · obtain ⟨t, rfl, ht, out⟩ := h
    refine ⟨_, (pss_spl (i := 1) sc_parse_report.nd rfl (Or.inl rfl) (pv 0)
      (psst_cons (PST.of (ps_if (pt_cmpR op_ne (pe_ix (r := rIxL K) ix_list (pv 1) pe_int (fun _ _ => rfl)) (pe_call0 (ok_first_line T) (hr.mono (by decide)) (by rfl) T.g_first_line T.F_first_line.kp T.b_first_line .nil pass0) (nomark _)) (pss_one (ps_raise rfl (takes_of rfl rfl rfl rfl) (pmk_oex T.ox_InvalidReport T.xi_InvalidReport T.xt_InvalidReport (ok_InvalidReport___init__ T hP) (hr.mono (by decide)) T.b_InvalidReport___init__ .nil pass0 (by rfl) T.g_InvalidReport (pa_cons pe_int pa_nil)))) pss_nil))
      (CwR.psst_one (CwR.pst_ret (pet_lcR (own := [("row", 2), ("line", 3)]) (takes_of rfl rfl rfl rfl) rfl rfl rfl sc_parse_report.nd (pi_enumF K rfl (by rfl) T.b_enumerate (pa_cons (pe_slice (r := rSlL K) sl_list (pv 1) (po_some pe_int) po_none) pa_nil) (by decide) (by decide)) (blkOk_by (own := [("row", 2), ("line", 3)]) (N := n_parse_report) (sc := defScope s_parse_report) (scope := { kind := PySem.ScopeKind.function, names := [ (PySem.Str.ofString ".0", PySem.NameKind.local), (PySem.Str.ofString "row", PySem.NameKind.local), (PySem.Str.ofString "line", PySem.NameKind.local), (PySem.Str.ofString "parse_line", PySem.NameKind.globalImplicit)], isGenerator := false, isCoroutine := false, more := [] : PySem.Scope }) (by decide +kernel)) (fun _ _ _ _ _ => (by exact (pg_tupK K (n := 2) rfl rfl (pgs_cons (pg_name (i := 2) sc_parse_report.nd rfl (Or.inl rfl)) (pgs_cons (pg_name (i := 3) sc_parse_report.nd rfl (Or.inl rfl)) pgs_nil))))) (fun _ _ _ _ _ _ _ ps => (pet_call (okT_parse_line T hP) (hr.mono (by decide)) (by rfl) T.g_parse_line T.F_parse_line.kp T.b_parse_line ps (pa_cons (pv 3) (pa_cons (pv 2) pa_nil))))))))), ?_⟩
    have hle := spl_le t []
    have hcn := spl_cnt t []
    refine q_asgL (xs := (TL.spl [10] 0 [] t).map vs_) (el_spl (c := 10) (by decide) (ev_var rfl) (ev_cS (by decide +kernel)) (by omega)) fun A H1 nA e1 hA => ?_
    generalize TL.spl [10] 0 [] t = L at out hle hcn hA
    have h0 : atI (L.map vs_) 0 = some (vs_ (L.getD 0 [])) := by
      have z := atI_nat (xs := L.map vs_) (j := 0) (v := vs_ (L.getD 0 [])) (by
        have : 0 < L.length := by omega
        simp [List.getD, this])
      exact z
    refine q_when (b := !decide (L.getD 0 [] = hdrL)) (et_test (ev_op (ev_ixL (i := 0) (ev_var rfl) (sq_of hA) ev_c h0) (ev_call ea_nil spv_first) rv_neS)) (fun hb H2 e2 => ?_) fun hb H2 e2 => ?_
    · have hz : ¬ L.getD 0 [] = hdrL := by simpa using hb
      have hr0 : repBad L = some 0 := by unfold repBad; rw [if_neg hz]
      exact rs_rep (i := ((0 : Nat) : Int)) (ea_cons ev_c ea_nil) (by decide) (by decide) ((out.1 0 hr0).mono (e1.trans e2))
    have hz : L.getD 0 [] = hdrL := by simpa using hb
    have hrb : repBad L = ((L.drop 1).findIdx? fun l => (rdOne l).isNone).map (· + 1) := by unfold repBad; rw [if_pos hz]
    have e12 := e1.trans e2
    refine (el_dropV (k := 1) (ev_var rfl) ev_c (sq_of (e2 _ _ hA))) H2 (Ex.refl _) _ fun a H3 na e3 ha => ?_
    have ha2 : H3 a = some (.lst ((L.drop 1).map vs_)) := by rw [List.map_drop]; exact ha
    refine ⟨a, (L.drop 1).map vs_, rfl, sq_of ha2, fun Dl hD => ?_⟩
    have nD : H Dl = none := fresh_back (e12.trans e3) hD
    refine lc_it (walk_enumF (xs := (L.drop 1).map vs_)) (fun i G1 => Ex H3 G1 ∧ (∃ qs : List Addr, G1 Dl = some (.lst (qs.map V.ref)) ∧ qs.length = i ∧ ∀ (j : Nat) q, qs[j]? = some q → G1 q = some (.tup (((repNums L).getD j []).map vn))) ∧ ∀ j, j < i → (rdOne ((L.drop 1).getD j [])).isNone = false)
      ⟨Ex.new hD, ⟨[], upd_same, rfl, by simp⟩, by simp⟩ (fun i G1 _ p => sq_of (p.1 _ _ ha2)) (fun i v G1 G2 hi p y => ?_) (fun G1 p => ?_)
    · obtain ⟨eG, ⟨qs, hL, lq, hq⟩, hgood⟩ := p
      obtain ⟨T2, x, y, rfl, hT, rfl, q1, q2⟩ := y
      cases q1
      obtain ⟨rfl, hi2⟩ := at_vs q2
      have hm : (L.drop 1).getD i [] ∈ L := List.mem_of_mem_drop (List.mem_of_getElem? (show (L.drop 1)[i]? = some ((L.drop 1).getD i []) by simp only [List.getD]; rw [List.getElem?_eq_getElem hi2]; rfl))
      have ll : ((L.drop 1).getD i []).length ≤ t.length := by
        have z := hle _ hm
        rw [List.length_nil, Nat.zero_add] at z
        exact z
      have hn : (repNums L).getD i [] = (rdOne ((L.drop 1).getD i [])).getD [] := by
        unfold repNums
        simp only [List.getD]
        rw [List.getElem?_map, List.getElem?_eq_getElem hi2]; rfl
      have li : i < L.length := by rw [List.length_drop] at hi2; omega
      have row : (1 : Int) + ((i : Nat) : Int) = ((i + 1 : Nat) : Int) := by omega
      rw [row]
      refine ⟨T2, [.int ((i + 1 : Nat) : Int), vs_ ((L.drop 1).getD i [])], rfl, st_of upd_same, rfl, _, _, rfl, _, _, rfl, rfl, rfl, ?_⟩
      have eT : Ex G1 (upd G1 T2 (.tup [.int ((i + 1 : Nat) : Int), vs_ ((L.drop 1).getD i [])])) := Ex.new hT
      generalize (upd G1 T2 (.tup [.int ((i + 1 : Nat) : Int), vs_ ((L.drop 1).getD i [])])) = G3 at eT
      refine ⟨_, rfl, _, rfl, (L.drop 1).getD i [], i + 1, rfl, by omega, by omega, ?_⟩
      cases hrd : rdOne ((L.drop 1).getD i []) with
      | some ns =>
        refine .inl ⟨ns, rfl, fun r G4 nr e4 h4 => ⟨qs.map V.ref, e4 _ _ (eT _ _ hL), by rw [List.length_map, lq]; exact sz_lt (by omega), Ex.mut ((eG.trans eT).trans e4) hD, ⟨qs ++ [r], by rw [List.map_append]; exact upd_same, by rw [List.length_append, lq]; rfl, fun j q hj => ?_⟩, fun j hj => ?_⟩⟩
        · have nDl : G3 Dl ≠ none := by rw [eT _ _ hL]; exact fun z => nomatch z
          by_cases z : j < qs.length
          · rw [List.getElem?_append_left z] at hj
            have hq2 := e4 _ _ (eT _ _ (hq j q hj))
            rw [upd_ne]
            · exact hq2
            · intro q'
              rw [q', e4 _ _ (eT _ _ hL)] at hq2
              cases hq2
          · have z2 : j = qs.length := by
              have := (List.getElem?_eq_some_iff.mp hj).1
              rw [List.length_append, List.length_singleton] at this
              omega
            subst z2
            rw [List.getElem?_append_right (Nat.le_refl _), Nat.sub_self] at hj
            cases hj
            rw [upd_ne (fun q' => nDl (by rw [← q']; exact nr)), h4, lq, hn, hrd]; rfl
        · rcases Nat.lt_or_eq_of_le (Nat.le_of_lt_succ hj) with q | q
          · exact hgood j q
          · rw [q, hrd]; rfl
      | none =>
        refine .inr ⟨rfl, ?_⟩
        have hb : repBad L = some (i + 1) := by
          rw [hrb]
          have z : (L.drop 1).findIdx? (fun l => (rdOne l).isNone) = some i := by
            rw [List.findIdx?_eq_some_iff_getElem]
            have lt : i < (L.drop 1).length := hi2
            refine ⟨lt, ?_, fun j hj => ?_⟩
            · have e : (L.drop 1)[i] = (L.drop 1).getD i [] := by simp only [List.getD]; rw [List.getElem?_eq_getElem lt]; rfl
              rw [e, hrd]; rfl
            · have lj : j < (L.drop 1).length := by omega
              have e : (L.drop 1)[j] = (L.drop 1).getD j [] := by simp only [List.getD]; rw [List.getElem?_eq_getElem lj]; rfl
              rw [e, hgood j hj]; decide
          rw [z]; rfl
        exact (out.1 (i + 1) hb).mono (((e12.trans e3).trans eG).trans eT)
    · obtain ⟨eG, ⟨qs, hL, lq, hq⟩, hgood⟩ := p
      have hb : repBad L = none := by
        rw [hrb]
        have z : (L.drop 1).findIdx? (fun l => (rdOne l).isNone) = none := by
          rw [List.findIdx?_eq_none_iff]
          intro x hx
          obtain ⟨j, hj, rfl⟩ := List.getElem_of_mem hx
          have e : (L.drop 1)[j] = (L.drop 1).getD j [] := by simp only [List.getD]; rw [List.getElem?_eq_getElem hj]; rfl
          rw [e]; exact hgood j (by rw [List.length_map]; exact hj)
        rw [z]; rfl
      exact out.2 hb Dl G1 ((e12.trans e3).trans eG) ⟨qs, hL, by rw [lq]; unfold repNums; rw [List.length_map, List.length_map], hq⟩
end Sw
namespace Sw
open PySem PySem.Spec PyProof.Rows L2 Evl LamX NdefX SX
local macro_rules | `(tactic| walk_at "ev") => `(tactic| first
  | exact ev_c
  | exact ev_var rfl
  | ((with_reducible show Ev (tCB rMax2 _) _ _ _); exact ev_maxi (by walk_at "ev") (by walk_at "ev"))
  | ((with_reducible show Ev (tCB rMn _) _ _ _); exact ev_min2 (by walk_at "ev") (by walk_at "ev"))
  | ((with_reducible show Ev (tUn _ _) _ _ _); exact ev_un (by walk_at "ev") ru_neg)
  | ((with_reducible show Ev (tFld _ _ _) _ _ _); exact ev_fldK (by walk_at "ev") (by assumption))
  | ((with_reducible show Ev (tOp (rI0 _) _ _) _ _ _); exact ev_op (by walk_at "ev") (by walk_at "ev") rv_I0)
  | ((with_reducible show Ev (tOp rEq _ _) _ _ _); exact ev_op (by walk_at "ev") (by walk_at "ev") (rv_eq rfl))
  | ((with_reducible show Ev (tOp rNe _ _) _ _ _); exact ev_op (by walk_at "ev") (by walk_at "ev") (rv_ne rfl)))

/-! ### the law's own words for texts -/
def tailC (c : Nat) (gs : List (List Nat)) : List Nat := (gs.map fun g => c :: g).flatten
theorem joinL_tail (c : Nat) : ∀ (d : List Nat) (gs : List (List Nat)), TL.joinL [c] (d :: gs) = d ++ tailC c gs
  | d, [] => by show d = d ++ []; rw [List.append_nil]
  | d, g :: gs => by
    show d ++ ([c] ++ TL.joinL [c] (g :: gs)) = d ++ ((c :: g) ++ tailC c gs)
    rw [joinL_tail c g gs]; rfl
theorem tail_len (c : Nat) : ∀ gs : List (List Nat), (tailC c gs).length = (gs.map (·.length)).sum + gs.length
  | [] => rfl
  | g :: gs => by
    show ((c :: g) ++ tailC c gs).length = _
    rw [List.length_append, tail_len c gs, List.map_cons, List.sum_cons, List.length_cons, List.length_cons]; omega
section
variable {K : PySem.W.Frag} {σ : L2.St} {H H' : Hp} {ta tb tc te : TE} {v x y : V} {xs ys : List V} {l : List Nat} {p : Addr} {D : Ends} {tz tu : TS}
theorem q_parL {m n : Nat} (ha : Ev ta σ H v) (hb : EvL tb σ H ys) (k : ∀ p H2, H p = none → Ex H H2 → H2 p = some (.lst ys) → tz D ((σ.set m (some v)).set n (some (.ref p))) H2) : tSeq (tPar m n (tCons ta (tCons tb tNil))) tz D σ H :=
  ha H (Ex.refl _) _ fun H1 e1 => hb H1 e1 _ fun p H2 np e2 h2 => ⟨v, .ref p, rfl, k p H2 (fresh_back e1 np) (e1.trans e2) h2⟩
theorem q_parLL {m n : Nat} (ha : EvL ta σ H xs) (hb : EvL tb σ H ys) (k : ∀ p q H2, H p = none → H q = none → p ≠ q → Ex H H2 → H2 p = some (.lst xs) → H2 q = some (.lst ys) → tz D ((σ.set m (some (.ref p))).set n (some (.ref q))) H2) : tSeq (tPar m n (tCons ta (tCons tb tNil))) tz D σ H :=
  ha H (Ex.refl _) _ fun p H1 np e1 h1 => hb H1 e1 _ fun q H2 nq e2 h2 => ⟨.ref p, .ref q, rfl, k p q H2 np (fresh_back e1 nq) (fun z => by rw [← z, h1] at nq; cases nq) (e1.trans e2) (e2 _ _ h1) h2⟩
theorem rv_gt0 {i j : Int} : RV (rI0 fun i j => .bl (decide (j < i))) (.int i) (.int j) H (.bl (decide (j < i))) := rv_I0
end
theorem given_gen2 {α : Type} {ns : List α} {d : α} {f : α → Bool} {v : α → V} : given ns.length (fun i => f (ns.getD i d)) (fun i => v (ns.getD i d)) = (ns.filter f).map v := by
  have e : ns = (List.range ns.length).map fun i => ns.getD i d := by
    apply List.ext_getElem
    · simp
    · intro i h1 h2
      simp [List.getD, h1]
  have e2 : ns.filter f = ((List.range ns.length).filter fun i => f (ns.getD i d)).map fun i => ns.getD i d := by
    conv => lhs; rw [e]
    rw [List.filter_map]; rfl
  rw [e2, List.map_map]; rfl
variable {P : Program} {w : World} {K : PySem.W.Frag} {mg : Str → Option Value} {base : Heap} {Z : Ad}
def sp_grouped : Sp := fun vs H Q _ => ∃ n : Nat, vs = [.int (n : Int)] ∧ n < 10 ^ 40 ∧ RetV (vs_ (G n)) H Q
theorem spv_grouped {H : Hp} {n : Nat} (hn : n < 10 ^ 40) : SpV sp_grouped [.int (n : Int)] H (vs_ (G n)) := fun _ _ _ q _ => ⟨n, rfl, hn, q⟩
theorem ok__law_grouped (T : Txt K mg Z) : FnOk P w K mg base CX0 1 Z.f__law_grouped Z.d__law_grouped p__law_grouped sp_grouped := by
  refine T.F__law_grouped.ok sc__law_grouped (fun vs H Q E h => ?_) (fun cdv Ar outer s H vs Q E hr h => ?_)
  · obtain ⟨n, rfl, _⟩ := h
    rfl
  · obtain ⟨n, rfl, hn, k⟩ := h
    refine ⟨_, (pss_cons (ps_par (i := 1) (j := 2) rfl sc__law_grouped.nd rfl rfl (by decide) rfl rfl (pa_cons (pe_callTy (r := rStrI) (cr_strI) (by rfl) T.b_str boot_str (pa_cons (pv 0) pa_nil)) (pa_cons (pe_lst pa_nil) pa_nil)) (by rfl))
      (pss_cons (ps_while PassesOwn.never (pt_cmpR op_gt (pe_callB (r := rLenT) (cr_lenT) (by rfl) T.b_len boot_len (pa_cons (pv 1) pa_nil)) pe_int (nomark _)) (pss_cons (ps_set (i := 2) sc__law_grouped.nd rfl (Or.inl rfl) (pe_op op_cat (pe_lst (pa_cons (pe_slice (r := C8.rSlX) C8.sl_txt (pv 1) (po_some (pe_op op_sub (pe_callB (r := rLenT) (cr_lenT) (by rfl) T.b_len boot_len (pa_cons (pv 1) pa_nil)) pe_int)) po_none) pa_nil)) (pv 2)))
      (pss_one (ps_set (i := 1) sc__law_grouped.nd rfl (Or.inl rfl) (pe_slice (r := C8.rSlX) C8.sl_txt (pv 1) po_none (po_some (pe_op op_sub (pe_callB (r := rLenT) (cr_lenT) (by rfl) T.b_len boot_len (pa_cons (pv 1) pa_nil)) pe_int)))))))
      (pss_one (ps_ret (pe_m1 PySem.F.slot_str_join PySem.F.type_str_join (mt_jn K rfl) pe_str (pe_op op_cat (pe_lst (pa_cons (pv 1) pa_nil)) (pv 2))))))), ?_⟩
    have l40 := digits_le hn
    refine q_parL (ev_strI (ev_var rfl) hn) (el_lst ea_nil (by show 0 ≤ 100000; decide)) fun g0 H1 n0 e1 h1 => ?_
    refine q_while (fun m σ' H' => ∃ (d : List Nat) (gs : List (List Nat)) (g : Addr), σ' = [some (.int (n : Int)), some (vs_ d), some (.ref g)] ∧ Ex H H' ∧ H' g = some (.lst (gs.map vs_)) ∧ d.length ≤ m ∧ m ≤ 40 ∧ gs.length + m ≤ 40 ∧ (gs.map (·.length)).sum ≤ 40 * gs.length ∧ G3 (d.length + 1) d ++ tailC 44 gs = G n) 40
      ⟨TL.numL n, [], g0, rfl, e1, h1, l40, by decide, by decide, by simp, by show G n ++ [] = G n; rw [List.append_nil]⟩ ?_
    rintro m σ' H' ⟨d, gs, g, rfl, eH, hg, dm, m40, gm, gl, hG⟩
    refine ⟨decide ((3 : Int) < (d.length : Int)), et_test (ev_op (ev_lnT (ev_var rfl) (by omega)) ev_c rv_I0), fun hb H2 e2 => ?_, fun hb H2 e2 => ?_⟩
    · have h3 : 3 < d.length := by have := of_decide_eq_true hb; omega
      refine ⟨_, fun σ2 H2 z => z, ?_⟩
      refine q_asgL (xs := [vs_ (d.drop (d.length - 3))] ++ gs.map vs_) (fun G1 f1 Q q => (el_lst (ea_cons (ev_is (ev_from (i := (d.length : Int) - 3) (ev_var rfl) (ev_op (ev_lnT (ev_var rfl) (by omega)) ev_c rv_I0) (by omega) (by omega)) (by rw [show ((d.length : Int) - 3).toNat = d.length - 3 by omega])) ea_nil) (by show 1 ≤ 100000; decide)) G1 f1 _ fun p G2 np g2 hp => (ev_var (i := 2) (v := .ref g) rfl) G2 (f1.trans g2) _ fun G3' g3 =>
        ⟨p, g, _, gs.map vs_, rfl, rfl, g3 _ _ hp, g3 _ _ (g2 _ _ (f1 _ _ (e2 _ _ hg))), sz_of (by rw [List.length_map]; show 1 + gs.length ≤ 100000; omega), fun r hr => q r _ (fresh_back (g2.trans g3) hr) ((g2.trans g3).trans (Ex.new hr)) upd_same⟩) fun r H3 nr e3 h3' => ?_
      refine s_asg (v := vs_ (d.take (d.length - 3))) (ev_is (ev_to (j := (d.length : Int) - 3) (ev_var rfl) (ev_op (ev_lnT (ev_var rfl) (by omega)) ev_c rv_I0) (by omega) (by omega)) (by rw [show ((d.length : Int) - 3).toNat = d.length - 3 by omega])) fun H4 e4 => ?_
      refine ⟨m - 1, by omega, d.take (d.length - 3), d.drop (d.length - 3) :: gs, r, rfl, ((eH.trans e2).trans e3).trans e4, e4 _ _ h3', by rw [List.length_take]; omega, by omega, by rw [List.length_cons]; omega, ?_, ?_⟩
      · rw [List.map_cons, List.sum_cons, List.length_cons, List.length_drop]; omega
      · rw [← hG]
        conv => rhs; unfold G3
        rw [if_neg (by omega), g3_fuel (d.length) ((d.take (d.length - 3)).length + 1) _ (by rw [List.length_take]; omega) (Nat.lt_succ_self _), List.append_assoc]; rfl
    · have h3 : ¬ 3 < d.length := by have := of_decide_eq_false hb; omega
      refine s_ret (v := vs_ (G n)) (ev_is (ev_jn (ls := d :: gs) (c := [44]) (ev_cS (by decide +kernel)) (fun G1 f1 Q q => (el_lst (ea_cons (ev_var rfl) ea_nil) (by show 1 ≤ 100000; decide)) G1 f1 _ fun p G2 np g2 hp => (ev_var (i := 2) (v := .ref g) rfl) G2 (f1.trans g2) _ fun G3' g3 =>
        ⟨p, g, _, gs.map vs_, rfl, rfl, g3 _ _ hp, g3 _ _ (g2 _ _ (f1 _ _ (e2 _ _ hg))), sz_of (by rw [List.length_map]; show 1 + gs.length ≤ 100000; omega), fun r hr => q r _ (fresh_back (g2.trans g3) hr) ((g2.trans g3).trans (Ex.new hr)) upd_same⟩) ?_) ?_) fun H3 e3 => k H3 ((eH.trans e2).trans e3)
      · rw [List.map_cons, List.sum_cons, List.length_cons]
        show d.length + (gs.map (·.length)).sum + (gs.length + 1) * 1 ≤ 16777216
        omega
      · rw [joinL_tail, ← hG]
        unfold G3
        rw [if_pos (by omega)]
def sp_line (K : PySem.W.Frag) : Sp := fun vs H Q _ => ∃ (p : Addr) (cs : List (List Nat)), vs = [.ref p] ∧ SqL K H p (cs.map vs_) ∧ cs.length = 5 ∧ (∀ c ∈ cs, c.length ≤ 200) ∧ RetV (vs_ (lineW ws5 cs)) H Q
theorem spv_line {H : Hp} {p : Addr} {cs : List (List Nat)} (h : SqL K H p (cs.map vs_)) (h5 : cs.length = 5) (hc : ∀ c ∈ cs, c.length ≤ 200) : SpV (sp_line K) [.ref p] H (vs_ (lineW ws5 cs)) := fun _ e _ q _ => ⟨p, cs, rfl, ex_l e h, h5, hc, q⟩
theorem ok__law_line (T : Txt K mg Z) : FnOk P w K mg base CX0 1 Z.f__law_line Z.d__law_line p__law_line (sp_line K) := by
  refine T.F__law_line.ok sc__law_line (fun vs H Q E h => ?_) (fun cdv Ar outer s H vs Q E hr h => ?_)
  · obtain ⟨p, cs, rfl, _⟩ := h
    rfl
  · obtain ⟨p, cs, rfl, hS, h5, hc, k⟩ := h
    refine ⟨_, (pss_cons (ps_set (i := 1) sc__law_line.nd rfl (Or.inl rfl) pe_str)
      (pss_cons (ps_for PassesOwn.never rfl (pi_range1 (by rfl) T.b_range (pa_cons pe_int pa_nil)) (pg_name (i := 2) sc__law_line.nd rfl (Or.inl rfl)) (pss_one (ps_set (i := 1) sc__law_line.nd rfl (Or.inl rfl) (pe_op op_addS' (pe_op op_addS' (pv 1) (pe_op op_times pe_str (pe_op op_sub (pe_ix (r := rIxL K) ix_list (pe_lst (pa_cons pe_int (pa_cons pe_int (pa_cons pe_int (pa_cons pe_int (pa_cons pe_int pa_nil)))))) (pv 2) (fun _ _ => rfl)) (pe_callB (r := rLenT) (cr_lenT) (by rfl) T.b_len boot_len (pa_cons (pe_ix (r := rIxL K) ix_list (pv 0) (pv 2) (fun _ _ => rfl)) pa_nil))))) (pe_ix (r := rIxL K) ix_list (pv 0) (pv 2) (fun _ _ => rfl))))))
      (pss_one (ps_ret (pv 1))))), ?_⟩
    refine q_asg (v := vs_ []) (ev_cS (by decide +kernel)) fun H1 e1 => ?_
    refine q_forR1 (n := 5) (ea_cons ev_c ea_nil) ⟨by decide, by decide⟩ (fun i σ' H' => (∃ x, σ' = [some (.ref p), some (vs_ ((List.range i).map fun j => padL (ws5.getD j 0) (cs.getD j [])).flatten), x]) ∧ Ex H H') (fun H2 e2 => ⟨⟨_, rfl⟩, e1.trans e2⟩) ?_ ?_
    · rintro i σ' H' hi ⟨⟨_, rfl⟩, eH⟩
      have hi5 : i < 5 := by omega
      have hl : ∀ {G1 : Hp} {σ2 : L2.St} {te : TE}, Ex H G1 → Ev te σ2 G1 (.int (i : Int)) → ∀ {ta : TE}, Ev ta σ2 G1 (.ref p) → Ev (tOp (rIxL K) ta te) σ2 G1 (vs_ (cs.getD i [])) := fun e h _ h2 => ev_ixL h2 (ex_l e hS) h (atI_nat (by simp [List.getD, show i < cs.length by omega]))
      have lw := getD_len hc i
      have lf : ((List.range i).map fun j => padL (ws5.getD j 0) (cs.getD j [])).flatten.length ≤ 1000 := by
        rw [List.length_flatten]
        refine Nat.le_trans (sum_le (B := 200) _ fun x hx => ?_) (by rw [List.length_map, List.length_range]; omega)
        obtain ⟨j, _, rfl⟩ := List.mem_map.mp hx
        exact padL_le (Nat.le_trans (ws_le j) (by decide)) (getD_len hc j)
      have lr : (List.replicate (ws5.getD i 0 - (cs.getD i []).length) 32).length ≤ 26 := by
        rw [List.length_replicate]; have := ws_le i; omega
      refine s_asg (v := vs_ ((((List.range i).map fun j => padL (ws5.getD j 0) (cs.getD j [])).flatten ++ List.replicate (ws5.getD i 0 - (cs.getD i []).length) 32) ++ cs.getD i [])) (ev_addS (ev_addS (ev_var rfl) (ev_is (ev_times (c := 32) (n := ((ws5.getD i 0 : Nat) : Int) - ((cs.getD i []).length : Int)) (ev_is ev_c (by decide +kernel)) (ev_op (ev_ixNL (xs := ws5.map vn) (i := (i : Int)) (el_lst (ea_cons ev_c (ea_cons ev_c (ea_cons ev_c (ea_cons ev_c (ea_cons ev_c ea_nil))))) (by show 5 ≤ 100000; decide)) (ev_var rfl) (atI_nat ?_)) (ev_lnT (hl eH (ev_var rfl) (ev_var rfl)) (by omega)) rv_I0) (by omega) (by have := ws_le i; omega)) ?_) (by omega)) (hl eH (ev_var rfl) (ev_var rfl)) (by rw [List.length_append]; omega)) fun H2 e2 => ⟨⟨some (.int (i : Int)), ?_⟩, eH.trans e2⟩
      · match i, hi5 with
        | 0, _ | 1, _ | 2, _ | 3, _ | 4, _ => rfl
      · have e0 : (((ws5.getD i 0 : Nat) : Int) - ((cs.getD i []).length : Int)).toNat = ws5.getD i 0 - (cs.getD i []).length := by omega
        rw [e0]; rfl
      · rw [List.range_succ, List.map_append, List.flatten_append, List.append_assoc]
        simp [padL]
    · rintro σ' H' ⟨⟨_, rfl⟩, eH⟩
      refine s_ret (v := vs_ (lineW ws5 cs)) (ev_is (ev_var rfl) ?_) fun H2 e2 => k H2 (eH.trans e2)
      have z := line5 cs h5
      show vs_ ((List.range (Int.toNat 5)).map fun j => padL (ws5.getD j 0) (cs.getD j [])).flatten = _
      rw [show Int.toNat 5 = 5 from rfl, z]
noncomputable def cellV (c : List Nat) : V := @ite _ (cellOk c) (Classical.propDecidable _) (vn (NumText.digitsVal (c.filter isD))) .non
theorem cellV_ok {c : List Nat} (h : cellOk c) : cellV c = vn (NumText.digitsVal (c.filter isD)) := by unfold cellV; rw [if_pos h]
theorem cellV_no {c : List Nat} (h : ¬ cellOk c) : cellV c = .non := by unfold cellV; rw [if_neg h]
theorem fil_flat (f : Nat → Bool) (l : List Nat) : TL.joinL [] ((l.filter f).map fun c => [c]) = l.filter f := by
  rw [joinL_nil]
  induction l.filter f with
  | nil => rfl
  | cons a r ih => rw [List.map_cons, List.flatten_cons, ih]; rfl
def sp_number : Sp := fun vs H Q _ => ∃ c : List Nat, vs = [vs_ c] ∧ c.length ≤ 30 ∧ RetV (cellV c) H Q
theorem spv_number {H : Hp} {c : List Nat} (hc : c.length ≤ 30) : SpV sp_number [vs_ c] H (cellV c) := fun _ _ _ q _ => ⟨c, rfl, hc, q⟩
theorem ok__law_number (T : Txt K mg Z) : FnOk P w K mg base CX0 2 Z.f__law_number Z.d__law_number p__law_number sp_number := by
  refine T.F__law_number.ok sc__law_number (fun vs H Q E h => ?_) (fun cdv Ar outer s H vs Q E hr h => ?_)
  · obtain ⟨c, rfl, _⟩ := h
    rfl
  · obtain ⟨c, rfl, hc, k⟩ := h
    refine ⟨_, (pss_cons (ps_set (i := 1) sc__law_number.nd rfl (Or.inl rfl) (pe_m1 PySem.F.slot_str_join PySem.F.type_str_join (mt_jn K rfl) pe_str (pe_lc (own := [("_law_one", 2)]) rfl sc__law_number.nd (pi_str (pv 0)) (blkOk_by (own := [("_law_one", 2)]) (N := n__law_number) (sc := defScope s__law_number) (scope := { kind := PySem.ScopeKind.function, names := [(PySem.Str.ofString ".0", PySem.NameKind.local), (PySem.Str.ofString "_law_one", PySem.NameKind.local)], isGenerator := false, isCoroutine := false, more := [] : PySem.Scope }) (by decide +kernel)) (fun _ _ _ _ _ => (pg_name (i := 2) sc__law_number.nd rfl (Or.inl rfl))) (fun _ _ _ _ _ => (pts_one (pt_chain op_leS op_leS pe_str (pv 2) pe_str))) (fun _ _ _ _ _ => (pv 2)))))
      (pss_cons (ps_if (PW.pt (pw_or (pt_cmpR op_eq (pv 1) pe_str (nomark _)) (pw_or1 (pt_cmpR op_ne (pe_call (ok__law_grouped T) (hr.mono (by decide)) (by rfl) T.g__law_grouped T.F__law_grouped.kp T.b__law_grouped .nil pass0 (pa_cons (pe_callTy (r := rIntS) (cr_intS) (by rfl) T.b_int boot_int (pa_cons (pv 1) pa_nil)) pa_nil)) (pv 0) (nomark _))))) (pss_one (ps_ret pe_non)) pss_nil)
      (pss_one (ps_ret (pe_callTy (r := rIntS) (cr_intS) (by rfl) T.b_int boot_int (pa_cons (pv 1) pa_nil)))))), ?_⟩
    have lf : (c.filter isD).length ≤ 30 := Nat.le_trans (List.length_filter_le _ _) hc
    have hD : ∀ x ∈ c.filter isD, isD x = true := fun x hx => (List.mem_filter.mp hx).2
    have small : NumText.digitsVal (c.filter isD) < 10 ^ 40 := Nat.lt_of_lt_of_le (val_lt _ hD) (Nat.pow_le_pow_right (by decide) (by omega))
    refine q_asg (v := vs_ (c.filter isD)) (ev_is (ev_jn (ls := (c.filter isD).map fun x => [x]) (c := []) (ev_cS (by decide +kernel)) (el_is (el_lcSt (f := fun i => isD (c.getD i 0)) (v := fun i => vs_ [c.getD i 0]) (ev_var rfl) (by omega) (fun _ => rfl) (fun i x G1 e hx => ?_) (fun i x G1 e hx _ => ?_)) ?_) ?_) (by rw [fil_flat])) fun H1 e1 => ?_
    · have ex : c.getD i 0 = x := by simp [List.getD, hx]
      rw [ex]
      exact et_test (ev_inD (ev_var rfl) (ev_cS (by decide +kernel)) (ev_cS (by decide +kernel)))
    · have ex : c.getD i 0 = x := by simp [List.getD, hx]
      rw [ex]
      exact ev_var rfl
    · rw [given_gen2 (ns := c) (d := 0) (f := isD) (v := fun x => vs_ [x]), List.map_map]; rfl
    · refine Nat.le_trans (Nat.add_le_add (sum_le (B := 1) _ fun x hx => ?_) (Nat.le_refl _)) (by rw [List.length_map]; simp; omega)
      obtain ⟨y, _, rfl⟩ := List.mem_map.mp hx
      exact Nat.le_refl _
    refine q_when (b := !decide (c.filter isD ≠ []) || !decide (G (NumText.digitsVal (c.filter isD)) = c)) (et_or (et_is (et_test (ev_op (ev_var rfl) (ev_cS (l := []) (by decide +kernel)) rv_eqS)) (by cases c.filter isD <;> simp)) fun hb => et_test (ev_op (ev_call (ea_cons (ev_intS (ev_var rfl) hD (by simpa using hb) (by omega)) ea_nil) (spv_grouped small)) (ev_var rfl) rv_neS)) (fun hb H2 e2 => ?_) fun hb H2 e2 => ?_
    · have z : ¬ cellOk c := fun ⟨z1, z2⟩ => by
        rw [decide_eq_true z1, decide_eq_true z2] at hb; cases hb
      exact s_ret ev_c fun H3 e3 => by
        have q := k H3 ((e1.trans e2).trans e3)
        rw [cellV_no z] at q
        exact q
    · have z : cellOk c := by
        rw [Bool.or_eq_false_iff] at hb
        exact ⟨by simpa using hb.1, by simpa using hb.2⟩
      exact s_ret (ev_intS (ev_var rfl) hD z.1 (by omega)) fun H3 e3 => by
        have q := k H3 ((e1.trans e2).trans e3)
        rw [cellV_ok z] at q
        exact q
end Sw
namespace Sw
open PySem PySem.Spec PyProof.Rows L2 Evl LamX NdefX SX
local macro_rules | `(tactic| walk_at "ev") => `(tactic| first
  | exact ev_c
  | exact ev_var rfl
  | ((with_reducible show Ev (tCB rMax2 _) _ _ _); exact ev_maxi (by walk_at "ev") (by walk_at "ev"))
  | ((with_reducible show Ev (tCB rMn _) _ _ _); exact ev_min2 (by walk_at "ev") (by walk_at "ev"))
  | ((with_reducible show Ev (tUn _ _) _ _ _); exact ev_un (by walk_at "ev") ru_neg)
  | ((with_reducible show Ev (tFld _ _ _) _ _ _); exact ev_fldK (by walk_at "ev") (by assumption))
  | ((with_reducible show Ev (tOp (rI0 _) _ _) _ _ _); exact ev_op (by walk_at "ev") (by walk_at "ev") rv_I0)
  | ((with_reducible show Ev (tOp rEq _ _) _ _ _); exact ev_op (by walk_at "ev") (by walk_at "ev") (rv_eq rfl))
  | ((with_reducible show Ev (tOp rNe _ _) _ _ _); exact ev_op (by walk_at "ev") (by walk_at "ev") (rv_ne rfl)))

/-! ### the law reads a text -/
def tPairs : List (Int × Int) → TA
  | [] => tNil
  | (a, b) :: r => tCons (tTup (tCons (tC (.int a)) (tCons (tC (.int b)) tNil))) (tPairs r)
section
variable {K : PySem.W.Frag} {σ : L2.St} {H H' : Hp} {ta tb tc te : TE} {v x y : V} {xs ys : List V} {l : List Nat} {p : Addr} {D : Ends} {tz tu : TS}
theorem ea_pairs : ∀ (ps : List (Int × Int)) (H : Hp) (Q : List V → Hp → Prop), (∀ (qs : List Addr) H2, Ex H H2 → qs.length = ps.length → (∀ (i : Nat) q, qs[i]? = some q → H q = none ∧ H2 q = some (.tup [.int (ps.getD i (0, 0)).1, .int (ps.getD i (0, 0)).2])) → Q (qs.map V.ref) H2) → tPairs ps σ H Q
  | [], H, Q, k => k [] H (Ex.refl _) rfl (by simp)
  | (a, b) :: r, H, Q, k => by
    show (tTup (tCons (tC (.int a)) (tCons (tC (.int b)) tNil))) σ H fun x H1 => tPairs r σ H1 fun xs H2 => Q (x :: xs) H2
    exact (eu_tup (xs := [.int a, .int b]) (ea_cons ev_c (ea_cons ev_c ea_nil)) (by show 2 ≤ 100000; decide)) H (Ex.refl _) _ fun p H1 np e1 h1 => ea_pairs r H1 _ fun qs H2 e2 hl hq => k (p :: qs) H2 (e1.trans e2) (by rw [List.length_cons, hl]; rfl) fun i q hi => by
      cases i with
      | zero => cases hi; exact ⟨np, e2 _ _ h1⟩
      | succ i => obtain ⟨z1, z2⟩ := hq i q hi; exact ⟨fresh_back e1 z1, z2⟩
/-- for a, b in ((..), (..), ..) -/
theorem q_forPairs {ps : List (Int × Int)} {j1 j2 : Nat} {N : Addr → Prop} (hN : ∀ b, N b → H b ≠ none) (hz : ps.length ≤ 1000) (Pv : Hp → Nat → L2.St → Hp → Prop) (h0 : ∀ H1, Ex H H1 → Pv H1 0 σ H1) (hG : ∀ H1 i σ' H', Ex H H1 → Pv H1 i σ' H' → Ex (wn H1 N) H')
    (hs : ∀ H1 i σ' H', Ex H H1 → i < ps.length → Pv H1 i σ' H' → tu { D with nx := Pv H1 (i + 1), ct := Pv H1 (i + 1), bk := tz D } ((σ'.set j1 (some (.int (ps.getD i (0, 0)).1))).set j2 (some (.int (ps.getD i (0, 0)).2))) H')
    (hd : ∀ H1 σ' H', Ex H H1 → Pv H1 ps.length σ' H' → tz D σ' H') : tSeq (tFor (iTup K (tTup (tPairs ps))) (gTup K 2 (gCons (gName j1) (gCons (gName j2) gNil))) tu) tz D σ H := by
  refine ea_pairs ps H _ fun qs H2 e2 lq hq => ⟨by rw [List.length_map, lq]; exact sz_of (by omega), fun r hr => ?_⟩
  have e3 : Ex H (upd H2 r (.tup (qs.map V.ref))) := e2.trans (Ex.new hr)
  have hr3 : (upd H2 r (.tup (qs.map V.ref))) r = some (.tup (qs.map V.ref)) := upd_same
  have hq3 : ∀ (i : Nat) q, qs[i]? = some q → (upd H2 r (.tup (qs.map V.ref))) q = some (.tup [.int (ps.getD i (0, 0)).1, .int (ps.getD i (0, 0)).2]) := fun i q hi => (Ex.new hr) _ _ (hq i q hi).2
  have nr : H r = none := fresh_back e2 hr
  generalize upd H2 r (.tup (qs.map V.ref)) = H3 at e3 hr3 hq3
  refine ⟨r, rfl, ⟨_, st_of hr3⟩, ?_⟩
  have keep : ∀ {i σ' G b o}, Pv H3 i σ' G → H b = none → H3 b = some o → G b = some o := fun {i σ' G b o} p nb hb => hG H3 i σ' G e3 p b o ((wn_ni fun z => hN b z nb).trans hb)
  have w := walk_tup (K := K) (a := r) (xs := qs.map V.ref)
  rw [List.length_map, lq] at w
  refine for_it w (Pv H3) (h0 H3 e3) (fun i σ' G _ p => st_of (keep p nr hr3)) (fun i w σ' G G2 hi p y => ?_) (fun σ' G p => hd H3 σ' G e3 p)
  obtain ⟨rfl, q2⟩ := y
  rw [List.getElem?_map] at q2
  obtain ⟨q, hqi, rfl⟩ := Option.map_eq_some_iff.mp q2
  exact ⟨q, _, rfl, st_of (keep p (hq i q hqi).1 (hq3 i q hqi)), rfl, _, _, rfl, _, _, rfl, rfl, hs H3 i σ' _ e3 hi p⟩
theorem inV_non {cs : List (List Nat)} : inV .non (cs.map cellV) = false ↔ ∀ c ∈ cs, cellOk c := by
  unfold inV
  rw [List.any_eq_false]
  constructor
  · intro h c hc
    by_cases z : cellOk c
    · exact z
    · exact absurd (by rw [cellV_no z]; rfl) (h (cellV c) (List.mem_map.mpr ⟨c, hc, rfl⟩))
  · intro h x hx
    obtain ⟨c, hc, rfl⟩ := List.mem_map.mp hx
    rw [cellV_ok (h c hc)]
    exact Bool.false_ne_true
theorem flat_cells {cs : List (List Nat)} : (cs.map cellV).all flatV = true := by
  rw [List.all_eq_true]
  intro x hx
  obtain ⟨c, hc, rfl⟩ := List.mem_map.mp hx
  by_cases z : cellOk c
  · rw [cellV_ok z]; rfl
  · rw [cellV_no z]; rfl
end
def lnums (l : List Nat) : List Nat := (cellsW ws5 l).map fun c => NumText.digitsVal (c.filter isD)
theorem lnums_ok {l ns : List Nat} (h : LineOk l ns) : lnums l = ns := by
  unfold lnums
  rw [h.cells, List.map_map]
  have e : ((fun c => NumText.digitsVal (c.filter isD)) ∘ G) = id := by
    funext n
    show NumText.digitsVal ((G n).filter isD) = n
    rw [g_isD, TL.numL_val]
  rw [e, List.map_id]
theorem rd_bad {l : List Nat} (h : ¬ ∀ c ∈ cellsW ws5 l, cellOk c) : rdOne l = none := by
  cases hr : rdOne l with
  | none => rfl
  | some ns =>
    exact absurd (fun c hc => by
      obtain ⟨n, _, rfl⟩ := (rdOne_some.mp hr).cell hc
      exact cellOk_g n) h
theorem rd_law {l : List Nat} (h : ∀ c ∈ cellsW ws5 l, cellOk c) : (rdOne l).isNone = !decide (lineW ws5 ((lnums l).map G) = l) := by
  by_cases z : lineW ws5 ((lnums l).map G) = l
  · rw [rdOne_some.mpr (line_law h z), decide_eq_true z]; rfl
  · rw [decide_eq_false z]
    cases hr : rdOne l with
    | none => rfl
    | some ns =>
      exfalso
      apply z
      have q := rdOne_some.mp hr
      rw [lnums_ok q]; exact q.2
theorem rd_nums {l : List Nat} (h : (rdOne l).isNone = false) : rdOne l = some (lnums l) := by
  cases hr : rdOne l with
  | none => rw [hr] at h; cases h
  | some ns => rw [lnums_ok (rdOne_some.mp hr)]
theorem lnums_small (l : List Nat) : ∀ n ∈ lnums l, n < 10 ^ 40 := fun n hn => by
  obtain ⟨c, hc, rfl⟩ := List.mem_map.mp hn
  refine Nat.lt_of_lt_of_le (val_lt _ fun x hx => (List.mem_filter.mp hx).2) (Nat.pow_le_pow_right (by decide) ?_)
  exact Nat.le_trans (List.length_filter_le _ _) (Nat.le_trans (cell_len ws5 l (by decide) c hc) (by decide))
def pr5 : List (Int × Int) := [(0, 26), (26, 40), (40, 54), (54, 68), (68, 82)]
theorem pr5_at (i : Nat) (hi : i < 5) : (pr5.getD i (0, 0)).1 = ((off5 i : Nat) : Int) ∧ (pr5.getD i (0, 0)).2 = ((off5 i : Nat) : Int) + ((ws5.getD i 0 : Nat) : Int) := by
  match i, hi with
  | 0, _ | 1, _ | 2, _ | 3, _ | 4, _ => exact ⟨rfl, rfl⟩
variable {P : Program} {w : World} {K : PySem.W.Frag} {mg : Str → Option Value} {base : Heap} {Z : Ad}
def ReadOut (L : List (List Nat)) (H : Hp) (Q : VK) : Prop := (∀ r, repBad L = some r → RetU [.str "InvalidReport", .int (r : Int)] H Q) ∧ (repBad L = none → ∀ p H2, Ex H H2 → RowsT H2 p (repNums L) → Q (.ref p) H2)
def sp_lread : Sp := fun vs H Q _ => ∃ t : List Nat, vs = [vs_ t] ∧ t.length ≤ 30000 ∧ ReadOut (TL.spl [10] 0 [] t) H Q
theorem ok__law_read (T : Txt K mg Z) : FnOk P w K mg base CX0 3 Z.f__law_read Z.d__law_read p__law_read sp_lread := by
  refine T.F__law_read.ok sc__law_read (fun vs H Q E h => ?_) (fun cdv Ar outer s H vs Q E hr h => ?_)
  · obtain ⟨t, rfl, _⟩ := h
    rfl
  · obtain ⟨t, rfl, ht, out⟩ := h
    refine ⟨_, (pss_cons (ps_par (i := 1) (j := 2) rfl sc__law_read.nd rfl rfl (by decide) rfl rfl (pa_cons (pe_m1 PySem.F.slot_str_split PySem.F.type_str_split mt_spl (pv 0) pe_str) (pa_cons (pe_lst pa_nil) pa_nil)) (by rfl))
      (pss_cons (ps_if (pt_cmpR op_ne (pe_ix (r := rIxL K) ix_list (pv 1) pe_int (fun _ _ => rfl)) (pe_call (ok__law_line T) (hr.mono (by decide)) (by rfl) T.g__law_line T.F__law_line.kp T.b__law_line .nil pass0 (pa_cons (pe_lst (pa_cons pe_str (pa_cons pe_str (pa_cons pe_str (pa_cons pe_str (pa_cons pe_str pa_nil)))))) pa_nil)) (nomark _)) (pss_one (ps_ret (pe_tup (pa_cons pe_str (pa_cons pe_int pa_nil))))) pss_nil)
      (pss_cons (ps_for PassesOwn.never rfl (pi_range2 (by rfl) T.b_range (pa_cons pe_int (pa_cons (pe_callB (r := rLenS K) (call_len_seq) (by rfl) T.b_len boot_len (pa_cons (pv 1) pa_nil)) pa_nil))) (pg_name (i := 3) sc__law_read.nd rfl (Or.inl rfl)) (pss_cons (ps_par (i := 4) (j := 5) rfl sc__law_read.nd rfl rfl (by decide) rfl rfl (pa_cons (pe_ix (r := rIxL K) ix_list (pv 1) (pv 3) (fun _ _ => rfl)) (pa_cons (pe_lst pa_nil) pa_nil)) (by rfl))
      (pss_cons (ps_for PassesOwn.never rfl (pi_tupK K rfl (pe_tup (pa_cons (pe_tup (pa_cons pe_int (pa_cons pe_int pa_nil))) (pa_cons (pe_tup (pa_cons pe_int (pa_cons pe_int pa_nil))) (pa_cons (pe_tup (pa_cons pe_int (pa_cons pe_int pa_nil))) (pa_cons (pe_tup (pa_cons pe_int (pa_cons pe_int pa_nil))) (pa_cons (pe_tup (pa_cons pe_int (pa_cons pe_int pa_nil))) pa_nil))))))) (by exact (pg_tupK K (n := 2) rfl rfl (pgs_cons (pg_name (i := 6) sc__law_read.nd rfl (Or.inl rfl)) (pgs_cons (pg_name (i := 7) sc__law_read.nd rfl (Or.inl rfl)) pgs_nil)))) (pss_one (ps_expr (pe_bm PySem.F.plainAttrs_list PySem.F.slot_list_append PySem.F.type_list_append mt_append (pv 5) (pa_cons (pe_call (ok__law_number T) (hr.mono (by decide)) (by rfl) T.g__law_number T.F__law_number.kp T.b__law_number .nil pass0 (pa_cons (pe_m1 PySem.F.slot_str_lstrip PySem.F.type_str_lstrip mt_ls (pe_slice (r := C8.rSlX) C8.sl_txt (pv 4) (po_some (pv 6)) (po_some (pv 7))) pe_str) pa_nil)) pa_nil)))))
      (pss_cons (ps_if (PW.pt (pw_or (pt_cmpR op_in_seq pe_non (pv 5) (by rfl)) (pw_or1 (pt_cmpR op_ne (pe_call (ok__law_line T) (hr.mono (by decide)) (by rfl) T.g__law_line T.F__law_line.kp T.b__law_line .nil pass0 (pa_cons (pe_lc (own := [("_law_number_here", 8)]) rfl sc__law_read.nd (pi_listK K rfl (pv 5)) (blkOk_by (own := [("_law_number_here", 8)]) (N := n__law_read) (sc := defScope s__law_read) (scope := { kind := PySem.ScopeKind.function, names := [ (PySem.Str.ofString ".0", PySem.NameKind.local), (PySem.Str.ofString "_law_number_here", PySem.NameKind.local), (PySem.Str.ofString "_law_grouped", PySem.NameKind.globalImplicit)], isGenerator := false, isCoroutine := false, more := [] : PySem.Scope }) (by decide +kernel)) (fun _ _ _ _ _ => (pg_name (i := 8) sc__law_read.nd rfl (Or.inl rfl))) (fun _ _ _ _ _ => pts_nil) (fun _ _ _ _ _ => (pe_call (ok__law_grouped T) (hr.mono (by decide)) (by rfl) T.g__law_grouped T.F__law_grouped.kp T.b__law_grouped .nil pass0 (pa_cons (pv 8) pa_nil)))) pa_nil)) (pv 4) (nomark _))))) (pss_one (ps_ret (pe_tup (pa_cons pe_str (pa_cons (pv 3) pa_nil))))) pss_nil)
      (pss_one (ps_expr (pe_bm PySem.F.plainAttrs_list PySem.F.slot_list_append PySem.F.type_list_append mt_append (pv 2) (pa_cons (pe_callTy (r := rTupS K) (call_tuple_of) (by rfl) T.b_tuple boot_tuple (pa_cons (pv 5) pa_nil)) pa_nil))))))))
      (pss_one (ps_ret (pv 2)))))), ?_⟩
    have hle := spl_le t []
    have hcn := spl_cnt t []
    refine q_parLL (xs := (TL.spl [10] 0 [] t).map vs_) (el_spl (c := 10) (by decide) (ev_var rfl) (ev_cS (by decide +kernel)) (by omega)) (el_lst ea_nil (by show 0 ≤ 100000; decide)) fun A R H1 nA nR nAR e1 hA hR => ?_
    generalize TL.spl [10] 0 [] t = L at out hle hcn hA
    have atL : ∀ {i : Nat}, i < L.length → (L.map vs_)[i]? = some (vs_ (L.getD i [])) := fun {i} hi => by simp [List.getD, hi]
    refine q_when (b := !decide (L.getD 0 [] = hdrL)) (et_test (ev_op (ev_ixL (i := 0) (ev_var rfl) (sq_of hA) ev_c (atI_nat (atL (i := 0) (by omega)))) (ev_call1L (xs := hdr5.map vs_) (el_lst (ea_cons (ev_cS (by decide +kernel)) (ea_cons (ev_cS (by decide +kernel)) (ea_cons (ev_cS (by decide +kernel)) (ea_cons (ev_cS (by decide +kernel)) (ea_cons (ev_cS (by decide +kernel)) ea_nil))))) (by show 5 ≤ 100000; decide)) fun p G1 e hp => spv_line (sq_of hp) rfl (by decide)) rv_neS)) (fun hb H2 e2 => ?_) fun hb H2 e2 => ?_
    · have hz : ¬ L.getD 0 [] = hdrL := by simpa using hb
      have hr0 : repBad L = some 0 := by unfold repBad; rw [if_neg hz]
      exact s_retU (eu_tup (ea_cons ev_c (ea_cons ev_c ea_nil)) (by show 2 ≤ 100000; decide)) fun p H3 np e3 h3 => out.1 0 hr0 p H3 (fresh_back (e1.trans e2) np) ((e1.trans e2).trans e3) h3
    have hz : L.getD 0 [] = hdrL := by simpa using hb
    have hrb : repBad L = ((L.drop 1).findIdx? fun l => (rdOne l).isNone).map (· + 1) := by unfold repBad; rw [if_pos hz]
    have gd : ∀ i, (L.drop 1).getD i [] = L.getD (i + 1) [] := fun i => by simp [List.getD, Nat.add_comm]
    have e12 := e1.trans e2
    refine q_forR2 (lo := 1) (n := (L.length : Int)) (ea_cons ev_c (ea_cons (Ev.int_eq (ev_len (ev_var rfl) (sq_of (e2 _ _ hA))) (by rw [List.length_map])) ea_nil)) ⟨by decide, by decide, by omega, by omega⟩
      (fun i σ' H' => (∃ x3 x4 x5 x6 x7 x8, σ' = [some (vs_ t), some (.ref A), some (.ref R), x3, x4, x5, x6, x7, x8]) ∧ Ex H H' ∧ H' A = some (.lst (L.map vs_)) ∧ (∃ qs : List Addr, H' R = some (.lst (qs.map V.ref)) ∧ qs.length = i ∧ ∀ (j : Nat) q, qs[j]? = some q → H' q = some (.tup (((repNums L).getD j []).map vn))) ∧ ∀ j, j < i → (rdOne ((L.drop 1).getD j [])).isNone = false)
      (fun H3 e3 => ⟨⟨_, _, _, _, _, _, rfl⟩, e12.trans e3, e3 _ _ (e2 _ _ hA), ⟨[], e3 _ _ (e2 _ _ hR), rfl, by simp⟩, by simp⟩) ?_ ?_
    · rintro i σ' H' hi ⟨⟨_, _, _, _, _, _, rfl⟩, eH, hL, ⟨qs, hRq, lq, hq⟩, hgood⟩
      have hi2 : i + 1 < L.length := by omega
      have erow : (1 : Int) + (i : Int) = ((i + 1 : Nat) : Int) := by omega
      rw [erow]
      have hm : L.getD (i + 1) [] ∈ L := List.mem_of_getElem? (show L[i + 1]? = some (L.getD (i + 1) []) by simp only [List.getD]; rw [List.getElem?_eq_getElem hi2]; rfl)
      have ll : (L.getD (i + 1) []).length ≤ t.length := by
        have z := hle _ hm
        rw [List.length_nil, Nat.zero_add] at z
        exact z
      refine q_parL (v := vs_ (L.getD (i + 1) [])) (ev_ixL (ev_var rfl) (sq_of hL) (ev_var rfl) (atI_nat (atL hi2))) (el_lst ea_nil (by show 0 ≤ 100000; decide)) fun B H3 nB e3 hB => ?_
      have gdi := gd i
      rw [← gdi]
      rw [← gdi] at ll
      have hn : (repNums L).getD i [] = (rdOne ((L.drop 1).getD i [])).getD [] := by
        unfold repNums
        have z : i < (L.drop 1).length := by rw [List.length_drop]; omega
        simp only [List.getD]
        rw [List.getElem?_map, List.getElem?_eq_getElem z]; rfl
      have bad : (rdOne ((L.drop 1).getD i [])).isNone = true → repBad L = some (i + 1) := fun hbd => by
        rw [hrb]
        have z : (L.drop 1).findIdx? (fun l => (rdOne l).isNone) = some i := by
          rw [List.findIdx?_eq_some_iff_getElem]
          have lt : i < (L.drop 1).length := by rw [List.length_drop]; omega
          refine ⟨lt, ?_, fun j hj => ?_⟩
          · have e : (L.drop 1)[i] = (L.drop 1).getD i [] := by simp only [List.getD]; rw [List.getElem?_eq_getElem lt]; rfl
            rw [e]; exact hbd
          · have lj : j < (L.drop 1).length := by omega
            have e : (L.drop 1)[j] = (L.drop 1).getD j [] := by simp only [List.getD]; rw [List.getElem?_eq_getElem lj]; rfl
            rw [e, hgood j hj]; decide
        rw [z]; rfl
      generalize hln : (L.drop 1).getD i [] = ln at ll hn bad
      have nBH : H B = none := fresh_back eH nB
      have c5 : (cellsW ws5 ln).length = 5 := cellsW_len ws5 ln
      refine q_forPairs (ps := pr5) (j1 := 6) (j2 := 7) (N := fun b => b = B) (fun b z => by rw [z, hB]; exact fun q => nomatch q) (by decide) (fun G1 k σ2 H4 => (∃ x6 x7 x8, σ2 = [some (vs_ t), some (.ref A), some (.ref R), some (.int ((i + 1 : Nat) : Int)), some (vs_ ln), some (.ref B), x6, x7, x8]) ∧ Ex (wn G1 fun b => b = B) H4 ∧ Ex H' H4 ∧ H4 B = some (.lst (((cellsW ws5 ln).take k).map cellV)))
        (fun G1 g1 => ⟨⟨_, _, _, rfl⟩, wn_ex, e3.trans g1, g1 _ _ hB⟩) (fun G1 k σ2 H4 _ p => p.2.1) ?_ ?_
      · rintro G1 k σ2 H4 g1 hk ⟨⟨_, _, _, rfl⟩, eW, eH4, hB4⟩
        have hk : k < 5 := hk
        obtain ⟨p1, p2⟩ := pr5_at k hk
        rw [p1, p2]
        have lc : (lst ((ln.drop (off5 k)).take (ws5.getD k 0))).length ≤ 26 := Nat.le_trans (List.dropWhile_sublist _).length_le (by rw [List.length_take]; have := ws_le k; omega)
        refine s_app (v := cellV (lst ((ln.drop (off5 k)).take (ws5.getD k 0)))) hB4 (ev_var rfl) (ev_call (ea_cons (ev_is (ev_ls (ev_mid (i := ((off5 k : Nat) : Int)) (j := ((off5 k : Nat) : Int) + ((ws5.getD k 0 : Nat) : Int)) (ev_var rfl) (ev_var rfl) (ev_var rfl) (by omega) (by omega) (by omega)) (ev_cS (by decide +kernel)) (by rw [List.length_take, List.length_drop]; omega)) ?_) ea_nil) (spv_number (by omega))) (by rw [List.length_map, List.length_take]; omega) fun H5 e5 => ?_
        · rw [Int.toNat_natCast, show (((off5 k : Nat) : Int) + ((ws5.getD k 0 : Nat) : Int) - ((off5 k : Nat) : Int)).toNat = ws5.getD k 0 by omega]
        · refine ⟨⟨_, _, _, rfl⟩, fun b o z => ?_, Ex.mut (eH4.trans e5) nB, by rw [cell_at ln k hk, List.map_append]; exact upd_same⟩
          rw [upd_ne (fun q => by rw [wn_in (N := fun b => b = B) q] at z; cases z)]
          exact e5 _ _ (eW _ _ z)
      · rintro G1 σ2 H4 g1 ⟨⟨_, _, _, rfl⟩, eW, eH4, hB4⟩
        have e5' : (cellsW ws5 ln).take pr5.length = cellsW ws5 ln := List.take_of_length_le (by rw [c5]; decide)
        rw [e5'] at hB4
        refine q_when (b := (rdOne ln).isNone) ?_ (fun hb H5 e5 => ?_) fun hb H5 e5 => ?_
        · by_cases ha : ∀ c ∈ cellsW ws5 ln, cellOk c
          · have i0 : inV .non ((cellsW ws5 ln).map cellV) = false := inV_non.mpr ha
            have em : (cellsW ws5 ln).map cellV = (lnums ln).map vn := by
              unfold lnums
              rw [List.map_map]
              exact List.map_congr_left fun c hc => cellV_ok (ha c hc)
            have l5 : (lnums ln).length = 5 := by unfold lnums; rw [List.length_map, c5]
            refine et_is (et_or (et_test (ev_op ev_c (ev_var rfl) (rv_isL (sq_of hB4) rfl flat_cells))) fun _ => et_test (ev_op (ev_call1L (xs := ((lnums ln).map G).map vs_) (el_is (el_lcL (fun _ => true) (fun i => vs_ (G ((lnums ln).getD i 0))) (ev_var rfl) (sq_of hB4) (by rw [List.length_map]; omega) (fun _ => rfl) (fun _ _ _ _ _ => et_yes) (fun i x G2 e hx _ => ?_)) ?_) fun p G2 e hp => spv_line (sq_of hp) (by rw [List.length_map, l5]) (fun c hc => ?_)) (ev_var rfl) rv_neS)) (by rw [i0, rd_law ha]; rfl)
            · rw [em] at hx
              obtain ⟨rfl, _, hm⟩ := at_vn hx
              exact ev_call (ea_cons (ev_var rfl) ea_nil) (spv_grouped (lnums_small ln _ hm))
            · rw [given_all, em, List.length_map, map_getD 0 (fun n => vs_ (G n)), List.map_map]; rfl
            · obtain ⟨n, hn, rfl⟩ := List.mem_map.mp hc
              exact Nat.le_trans (g_len (lnums_small ln n hn)) (by decide)
          · have i1 : inV .non ((cellsW ws5 ln).map cellV) = true := by
              cases z : inV .non ((cellsW ws5 ln).map cellV) with
              | true => rfl
              | false => exact absurd (inV_non.mp z) ha
            exact et_is (et_or (b := false) (et_test (ev_op ev_c (ev_var rfl) (rv_isL (sq_of hB4) rfl flat_cells))) fun hb => (by rw [i1] at hb; cases hb)) (by rw [i1, rd_bad ha]; rfl)
        · have e45 := (eH.trans eH4).trans e5
          exact s_retU (eu_tup (ea_cons ev_c (ea_cons (ev_var rfl) ea_nil)) (by show 2 ≤ 100000; decide)) fun p H6 np e6 h6 => out.1 (i + 1) (bad hb) p H6 (fresh_back e45 np) (e45.trans e6) h6
        · have hs := rd_nums hb
          have hl := rdOne_some.mp hs
          have em : (cellsW ws5 ln).map cellV = (lnums ln).map vn := by
            unfold lnums
            rw [List.map_map]
            exact List.map_congr_left fun c hc => cellV_ok (by
              obtain ⟨n, _, rfl⟩ := hl.cell hc
              exact cellOk_g n)
          rw [em] at hB4
          have hB5 := e5 _ _ hB4
          have hR5 := e5 _ _ (eH4 _ _ hRq)
          refine s_appU hR5 (ev_var rfl) (eu_tupV (ev_var rfl) hB5) (by rw [List.length_map, lq]; omega) fun r H6 nr e6 h6 => ?_
          have nRH : H R = none := nR
          refine ⟨⟨_, _, _, _, _, _, rfl⟩, Ex.mut (((eH.trans eH4).trans e5).trans e6) nRH, (upd_ne nAR).trans (e6 _ _ (e5 _ _ (eH4 _ _ hL))), ⟨qs ++ [r], by rw [List.map_append]; exact upd_same, by rw [List.length_append, lq]; rfl, fun j q hj => ?_⟩, fun j hj => ?_⟩
          · by_cases z : j < qs.length
            · rw [List.getElem?_append_left z] at hj
              have hq2 := e6 _ _ (e5 _ _ (eH4 _ _ (hq j q hj)))
              rw [upd_ne]
              · exact hq2
              · intro q'
                rw [q', e6 _ _ hR5] at hq2
                cases hq2
            · have z2 : j = qs.length := by
                have := (List.getElem?_eq_some_iff.mp hj).1
                rw [List.length_append, List.length_singleton] at this
                omega
              subst z2
              rw [List.getElem?_append_right (Nat.le_refl _), Nat.sub_self] at hj
              cases hj
              rw [upd_ne (fun q' => by rw [q', hR5] at nr; cases nr), h6, lq, hn, hs]; rfl
          · rcases Nat.lt_or_eq_of_le (Nat.le_of_lt_succ hj) with q | q
            · exact hgood j q
            · rw [q, hln]; exact hb
    · rintro σ' H' ⟨⟨_, _, _, _, _, _, rfl⟩, eH, hL, ⟨qs, hRq, lq, hq⟩, hgood⟩
      have en : ((L.length : Int) - 1).toNat = L.length - 1 := by omega
      rw [en] at lq hgood
      have hb : repBad L = none := by
        rw [hrb]
        have z : (L.drop 1).findIdx? (fun l => (rdOne l).isNone) = none := by
          rw [List.findIdx?_eq_none_iff]
          intro x hx
          obtain ⟨j, hj, rfl⟩ := List.getElem_of_mem hx
          have e : (L.drop 1)[j] = (L.drop 1).getD j [] := by simp only [List.getD]; rw [List.getElem?_eq_getElem hj]; rfl
          rw [e]; exact hgood j (by rw [List.length_drop] at hj; exact hj)
        rw [z]; rfl
      exact s_ret (ev_var rfl) fun H5 e5 => out.2 hb R H5 (eH.trans e5) ⟨qs, e5 _ _ hRq, by rw [lq]; unfold repNums; rw [List.length_map, List.length_drop], fun j q hj => e5 _ _ (hq j q hj)⟩
end Sw
namespace Sw
open PySem PySem.Spec PyProof.Rows L2 Evl LamX NdefX SX
local macro_rules | `(tactic| walk_at "ev") => `(tactic| first
  | exact ev_c
  | exact ev_var rfl
  | ((with_reducible show Ev (tCB rMax2 _) _ _ _); exact ev_maxi (by walk_at "ev") (by walk_at "ev"))
  | ((with_reducible show Ev (tCB rMn _) _ _ _); exact ev_min2 (by walk_at "ev") (by walk_at "ev"))
  | ((with_reducible show Ev (tUn _ _) _ _ _); exact ev_un (by walk_at "ev") ru_neg)
  | ((with_reducible show Ev (tFld _ _ _) _ _ _); exact ev_fldK (by walk_at "ev") (by assumption))
  | ((with_reducible show Ev (tOp (rI0 _) _ _) _ _ _); exact ev_op (by walk_at "ev") (by walk_at "ev") rv_I0)
  | ((with_reducible show Ev (tOp rEq _ _) _ _ _); exact ev_op (by walk_at "ev") (by walk_at "ev") (rv_eq rfl))
  | ((with_reducible show Ev (tOp rNe _ _) _ _ _); exact ev_op (by walk_at "ev") (by walk_at "ev") (rv_ne rfl)))

section
variable {K : PySem.W.Frag} {H : Hp}
theorem dp_ints : ∀ ns : List Int, DpAll K H (ns.map V.int) (ns.map PyData.int)
  | [] => .nil
  | n :: r => .cons (.int n) (dp_ints r)
theorem tup_shaped (ns : List Int) : SeqAt.shaped (.tuple (ns.map PyData.int)) = true := by
  show (PyData.canLay0 (.tuple (ns.map PyData.int)) && decide (PyData.depth (.tuple (ns.map PyData.int)) ≤ 64)) = true
  rw [Bool.and_eq_true]
  exact ⟨by simp only [PyData.canLay0, canLayAll_ints], decide_eq_true (by simp only [PyData.depth, depthAll_ints]; decide)⟩
end
theorem eqvA_dec : ∀ as bs : List Int, PyData.eqvAll (as.map PyData.int) (bs.map PyData.int) = decide (as = bs)
  | [], [] => rfl
  | [], b :: r => rfl
  | a :: r, [] => rfl
  | a :: r, b :: s => by
    show (PyData.eqv (.int a) (.int b) && PyData.eqvAll (r.map PyData.int) (s.map PyData.int)) = _
    rw [eqvA_dec r s]
    by_cases h : a = b <;> by_cases h2 : r = s <;> simp [PyData.eqv, h, h2]
theorem ints_shapedL (ns : List Int) : SeqAt.shaped (.list (ns.map PyData.int)) = true := tup_shaped ns
section
variable {K : PySem.W.Frag} {σ : L2.St} {H H' : Hp} {ta tb te t : TE} {a : Addr} {as bs : List Int}
theorem ev_neLL (h1 : EvL ta σ H (as.map V.int)) (h2 : EvL tb σ H (bs.map V.int)) : Ev (tOp (rNeD K) ta tb) σ H (.bl (!decide (as = bs))) := fun H1 e Q k => h1 H1 e _ fun p H2 _ e2 x1 => h2 H2 (e.trans e2) _ fun q H3 _ e3 x2 =>
  ⟨_, _, .lst (sq_of (e3 _ _ x1)) (dp_ints as), .lst (sq_of x2) (dp_ints bs), ints_shapedL as, ints_shapedL bs, by
    have z : PyData.eqv (.list (as.map PyData.int)) (.list (bs.map PyData.int)) = decide (as = bs) := eqvA_dec as bs
    rw [z]; exact k H3 (e2.trans e3)⟩
theorem ev_neLN (h1 : Ev ta σ H (.ref a)) (x1 : SqL K H a (as.map V.int)) (h2 : EvL tb σ H (bs.map V.int)) : Ev (tOp (rNeD K) ta tb) σ H (.bl (!decide (as = bs))) := fun H1 e Q k => h1 H1 e _ fun H2 e2 => h2 H2 (e.trans e2) _ fun q H3 _ e3 x2 =>
  ⟨_, _, .lst (ex_l ((e.trans e2).trans e3) x1) (dp_ints as), .lst (sq_of x2) (dp_ints bs), ints_shapedL as, ints_shapedL bs, by
    have z : PyData.eqv (.list (as.map PyData.int)) (.list (bs.map PyData.int)) = decide (as = bs) := eqvA_dec as bs
    rw [z]; exact k H3 (e2.trans e3)⟩
end
/-! ### a text with a change that is drawn -/
def wt (ls : List (List Nat)) : Nat := (ls.map (·.length)).sum + ls.length
theorem wt_app (a b : List (List Nat)) : wt (a ++ b) = wt a + wt b := by
  unfold wt
  rw [List.map_append, List.sum_append, List.length_append]; omega
theorem joinL_le : ∀ ls : List (List Nat), (TL.joinL [10] ls).length ≤ wt ls
  | [] => Nat.zero_le _
  | [x] => by show x.length ≤ _; unfold wt; simp
  | x :: y :: r => by
    have ih := joinL_le (y :: r)
    show (x ++ ([10] ++ TL.joinL [10] (y :: r))).length ≤ _
    have e : wt (x :: y :: r) = x.length + 1 + wt (y :: r) := by
      unfold wt
      rw [List.map_cons, List.sum_cons, List.length_cons]; omega
    rw [List.length_append, List.length_append, e]
    have : ([10] : List Nat).length = 1 := rfl
    omega
theorem spl_wt : ∀ (a acc : List Nat), wt (TL.spl [10] 0 acc a) = acc.length + a.length + 1
  | [], acc => by rw [TL.spl_nil]; unfold wt; simp
  | c :: r, acc => by
    by_cases h : TL.pre [10] (c :: r) = true
    · rw [TL.spl_hit h]
      have z := spl_wt r []
      show wt (acc :: TL.spl [10] 0 [] r) = _
      have e : wt (acc :: TL.spl [10] 0 [] r) = acc.length + 1 + wt (TL.spl [10] 0 [] r) := by
        unfold wt
        rw [List.map_cons, List.sum_cons, List.length_cons]; omega
      rw [e, z]
      simp; omega
    · have h : TL.pre [10] (c :: r) = false := by simpa using h
      rw [TL.spl_miss h, spl_wt r (acc ++ [c])]
      simp; omega
theorem wt_cut (ls : List (List Nat)) (r : Nat) : wt (ls.take r) + wt (ls.drop r) = wt ls := by
  conv => rhs; rw [← List.take_append_drop r ls]
  rw [wt_app]
def LVs (P : List Nat → Prop) (n : Nat) : V → Hp → Prop := fun v G => ∃ (p : Addr) (ls : List (List Nat)), v = .ref p ∧ G p = some (.lst (ls.map vs_)) ∧ ls.length = n ∧ ∀ x ∈ ls, P x
section
variable {K : PySem.W.Frag} {σ : L2.St} {H H' : Hp} {ta tb tc te tx : TE} {tt : TT} {x y z v : V} {a h l F : Addr} {xs ys : List V} {A B : Int → Prop} {ns : List Int}
theorem x_ifI {b : Bool} (ht : ∀ G, Dr h l H G → EvT tt σ G b) (h1 : b = true → EvI ta σ H h l A) (h2 : b = false → EvI tb σ H h l A) : EvI (tIf tt ta tb) σ H h l A := fun H1 d Q q => ht H1 d H1 (Ex.refl _) _ fun H2 e2 => by
  have d2 := d.trans (Dr.of d.hs e2)
  cases b with
  | true => exact h1 rfl H2 d2 Q fun v H3 d3 p => q v H3 ((Dr.of d.hs e2).trans d3) p
  | false => exact h2 rfl H2 d2 Q fun v H3 d3 p => q v H3 ((Dr.of d.hs e2).trans d3) p
theorem xi_ixL (ha : ∀ G, Ev ta σ G (.ref F)) (hF : wn H (hl h l) F = some (.lst (ns.map V.int))) (hb : EvI tb σ H h l (fun i => 0 ≤ i ∧ i < ns.length)) : EvI (tOp (rIxL K) ta tb) σ H h l (fun i => i ∈ ns) := fun H1 d Q q =>
  ha H1 H1 (Ex.refl _) _ fun H2 e2 => hb H2 (d.trans (Dr.of d.hs e2)) _ fun _ H3 d3 ⟨j, e', j0, j1⟩ => by
    subst e'
    have hp := wn_ex _ _ (((d.trans (Dr.of d.hs e2)).trans d3).ex _ _ hF)
    refine ⟨F, ns.map V.int, j, .int (ns.getD j.toNat 0), rfl, rfl, sq_of hp, atI_mapI j0 j1, q _ H3 ((Dr.of d.hs e2).trans d3) ⟨_, rfl, ?_⟩⟩
    have hlt : j.toNat < ns.length := by omega
    have e : ns.getD j.toNat 0 = ns[j.toNat] := by simp [List.getD, hlt]
    rw [e]; exact List.getElem_mem hlt
theorem x_ixS {s : List Nat} (ha : ∀ G, Ev ta σ G (vs_ s)) (hs : s.length ≤ 1000) (hb : EvI tb σ H h l (fun i => 0 ≤ i ∧ i < s.length)) : EvX (tOp rIxS ta tb) σ H h l (fun v _ => ∃ c, v = vs_ [c]) := fun H1 d Q q =>
  ha H1 H1 (Ex.refl _) _ fun H2 e2 => hb H2 (d.trans (Dr.of d.hs e2)) _ fun _ H3 d3 ⟨j, e', j0, j1⟩ => by
    subst e'
    have hlt : j.toNat < s.length := by omega
    have ej : j = ((j.toNat : Nat) : Int) := by omega
    refine ⟨S s, j, s[j.toNat], rfl, rfl, by rw [S_len]; exact sz_of (by omega), ?_, q _ H3 ((Dr.of d.hs e2).trans d3) ⟨_, rfl⟩⟩
    have key : atI (S s).cps.toList ((j.toNat : Nat) : Int) = some s[j.toNat] := by
      unfold atI
      rw [ixN_nat (show j.toNat < (S s).cps.toList.length from hlt)]
      show s[j.toNat]? = _
      rw [List.getElem?_eq_getElem hlt]
    rw [← ej] at key
    exact key
theorem x_call1X {sp : Sp} {E : XK} {P P' : V → Hp → Prop} (ha : EvX ta σ H h l P) (hsp : ∀ v G, Dr h l H G → P v (wn G (hl h l)) → ∀ Q : VK, (∀ v' G2, Dr h l G G2 → P' v' (wn G2 (hl h l)) → Q v' G2) → sp [v] G Q E) : EvX (tCall sp [] E (tCons ta tNil)) σ H h l P' := fun H1 d Q q =>
  ha H1 d _ fun v H2 d2 p => hsp v H2 (d.trans d2) p Q fun v' H3 d3 p' => q v' H3 (d2.trans d3) p'
/-- [e for i in range(n)], e a text that is drawn -/
theorem x_lcS {ta : TA} {jj : Nat} {us : List Nat} {n : Nat} {P : List Nat → Prop} (hn : EvA ta σ (wn H (hl h l)) [.int (n : Int)]) (hz : n ≤ 40000) (hw : ∀ x, wipe ((wipe σ us).set jj (some x)) us = wipe σ us)
    (he : ∀ (i : Nat) H1, Dr h l H H1 → EvX te ((wipe σ us).set jj (some (.int (i : Int)))) H1 h l (fun v _ => ∃ s, v = vs_ s ∧ P s)) : EvX (tLc (iRng1 ta) (gName jj) tYes te us) σ H h l (LVs P n) := fun H0 d0 Q q =>
  hn H0 (d0.ex.trans wn_ex) _ fun H1 e1 => ⟨(n : Int), rfl, by omega, by omega, fun Dl hD => by
    have d1 := Dr.of d0.hs e1
    have nD : ¬ hl h l Dl := hl_new (G' := H1) d1.hs hD
    have dn : Dr h l H1 (upd H1 Dl (.lst [])) := Dr.of d1.hs (Ex.new hD)
    have en : ((n : Int)).toNat = n := Int.toNat_natCast n
    rw [en]
    refine lc_range (lo := 0) (n := n) (fun i H' => Dr h l H1 H' ∧ ∃ ls : List (List Nat), H' Dl = some (.lst (ls.map vs_)) ∧ ls.length = i ∧ ∀ x ∈ ls, P x) ⟨dn, [], upd_same, rfl, by simp⟩ (fun i H' hi p => ?_) (fun H' p => ?_)
    · obtain ⟨d2, ls, h2, hl2, hA⟩ := p
      have e0 : (0 : Int) + (i : Int) = (i : Int) := Int.zero_add _
      show wipe ((wipe σ us).set jj (some (.int ((0 : Int) + (i : Int))))) us = wipe σ us ∧ _
      refine ⟨hw _, ?_⟩
      show te ((wipe σ us).set jj (some (.int ((0 : Int) + (i : Int))))) H' _
      rw [e0]
      refine he i H' ((d0.trans d1).trans d2) H' (Dr.refl d2.hs) _ fun v H3 d3 hv => ?_
      obtain ⟨s, rfl, hk⟩ := hv
      have h3 : H3 Dl = some (.lst (ls.map vs_)) := wn_ex _ _ (d3.ex _ _ (by rw [wn_ni nD]; exact h2))
      have d5 : Dr h l H1 (upd H3 Dl (.lst (ls.map vs_ ++ [vs_ s]))) := ⟨by
        obtain ⟨p0, m, r, a1, rr⟩ := d3.hs
        exact ⟨p0, m, r, by rw [upd_ne (fun z => nD z.symm)]; exact a1, rr⟩, fun b u hb => by
        obtain ⟨q1, q2⟩ := wn_some hb
        have z := wn_ex _ _ ((d2.trans d3).ex b u hb)
        rw [wn_ni q1, upd_ne (ne_of_none q2 hD)]
        exact z⟩
      refine ⟨_, h3, by rw [List.length_map]; exact sz_lt (by omega), d5, ls ++ [s], by rw [upd_same, List.map_append]; rfl, by rw [List.length_append, hl2]; rfl, fun x hx => ?_⟩
      rcases List.mem_append.mp hx with z | z
      · exact hA x z
      · rw [List.mem_singleton.mp z]; exact hk
    · obtain ⟨d2, ls, h2, hl2, hA⟩ := p
      exact q _ H' (d1.trans d2) ⟨Dl, ls, rfl, by rw [wn_ni nD]; exact h2, hl2, hA⟩⟩
theorem el_takeV {th : TE} {k : Nat} (hx : Ev te σ H (.ref a)) (hs : SqL K H a xs) (hk : Ev th σ H (.int (k : Int))) : EvL (tSl (rSlL K) te tNoPart (tPart th)) σ H (xs.take k) := el_take (em_of hx hs) hk
end
section
variable {K : PySem.W.Frag} {Z : Ad} {σ : L2.St} {H H' : Hp} {ta tb tc te : TE} {v : V} {h l p : Addr} {ns bs ds : List Int} {life : Int} {A B : Int → Prop} {D : Ends} {tz : TS}
theorem xi_dr {cells : List Int} {n : Int} {E : XK} (hc : SqL K (wn H (hl h l)) l (cells.map V.int)) (ha : ∀ G, Ev ta σ G (.ref h)) (hb : EvI tb σ H h l (fun i => i = n)) (p0 : 0 < n) (p1 : n ≤ 1000000000000000000) : EvI (tCall (sp_drawn K) [] E (tCons ta (tCons tb tNil))) σ H h l (fun v => 0 ≤ v ∧ v < n) :=
  (xi_drawn hc ha hb (fun i e => by subst e; exact ⟨p0, p1⟩)).imp fun v q => ⟨q.1, by obtain ⟨j, ej, zj⟩ := q.2; omega⟩
theorem xi_drA {cells : List Int} {n : Int} {E : XK} (hc : SqL K (wn H (hl h l)) l (cells.map V.int)) (ha : ∀ G, Ev ta σ G (.ref h)) (hb : EvI tb σ H h l A) (hA : ∀ i, A i → 0 < i ∧ i ≤ n) (p1 : n ≤ 1000000000000000000) : EvI (tCall (sp_drawn K) [] E (tCons ta (tCons tb tNil))) σ H h l (fun v => 0 ≤ v ∧ v < n) :=
  (xi_drawn hc ha hb (fun i e => by have := hA i e; omega)).imp fun v q => ⟨q.1, by obtain ⟨j, ej, zj⟩ := q.2; have := hA j ej; omega⟩
end
variable {P : Program} {w : World} {K : PySem.W.Frag} {mg : Str → Option Value} {base : Heap} {Z : Ad}
def sp_lawamounts (K : PySem.W.Frag) : Sp := fun vs H Q _ => ∃ (h l : Addr) (cells : List Int) (count high : Int), vs = [.ref h, .int count, .int high] ∧ 0 ≤ count ∧ count ≤ 1000 ∧ 0 ≤ high ∧ high ≤ 1000000000 ∧ HS H h l ∧ SqL K (wn H (hl h l)) l (cells.map V.int) ∧
  ∀ (p : Addr) (ns : List Int) (H' : Hp), Dr h l H H' → wn H' (hl h l) p = some (.tup (ns.map V.int)) → (ns.length : Int) = count → (∀ x ∈ ns, 0 ≤ x ∧ x ≤ high) → Q (.ref p) H'
theorem ok__law_amounts (T : Txt K mg Z) : FnOk P w K mg base CX0 2 Z.f__law_amounts Z.d__law_amounts p__law_amounts (sp_lawamounts K) := by
  refine T.F__law_amounts.ok sc__law_amounts (fun vs H Q E h => ?_) (fun cdv Ar outer s H vs Q E hr h => ?_)
  · obtain ⟨a, l, cells, count, high, rfl, _⟩ := h
    rfl
  · obtain ⟨a, l, cells, count, high, rfl, c0, c1, w0, w1, hs, hS, k⟩ := h
    refine ⟨_, (pss_one (ps_ret (pe_callTy (r := rTupS K) (call_tuple_of) (by rfl) T.b_tuple boot_tuple (pa_cons (pe_lc (own := [("_law_k", 3)]) rfl sc__law_amounts.nd (pi_range1 (by rfl) T.b_range (pa_cons (pv 1) pa_nil)) (blkOk_by (own := [("_law_k", 3)]) (N := n__law_amounts) (sc := defScope s__law_amounts) (scope := { kind := PySem.ScopeKind.function, names := [ (PySem.Str.ofString ".0", PySem.NameKind.local), (PySem.Str.ofString "_law_k", PySem.NameKind.local), (PySem.Str.ofString "_law_drawn", PySem.NameKind.globalImplicit), (PySem.Str.ofString "int", PySem.NameKind.globalImplicit), (PySem.Str.ofString "_law_high", PySem.NameKind.free), (PySem.Str.ofString "_law_state", PySem.NameKind.free)], isGenerator := false, isCoroutine := false, more := [] : PySem.Scope }) (by decide +kernel)) (fun _ _ _ _ _ => (pg_name (i := 3) sc__law_amounts.nd rfl (Or.inl rfl))) (fun _ _ _ _ _ => pts_nil) (fun _ _ _ _ _ => (pe_op op_mul (pe_call (ok__law_drawn T) (hr.mono (by decide)) (by rfl) T.g__law_drawn T.F__law_drawn.kp T.b__law_drawn .nil pass0 (pa_cons (pv 0) (pa_cons (pe_op op_add (pv 2) pe_int) pa_nil))) (pe_callTy (r := rInt1) (call_int1) (by rfl) T.b_int boot_int (pa_cons (pe_cmpR op_gt (pe_call (ok__law_drawn T) (hr.mono (by decide)) (by rfl) T.g__law_drawn T.F__law_drawn.kp T.b__law_drawn .nil pass0 (pa_cons (pv 0) (pa_cons pe_int pa_nil))) pe_int (nomark _)) pa_nil))))) pa_nil)))), ?_⟩
    have hx : EvX _ _ H a l (TI' fun ns => (ns.length : Int) = count ∧ ∀ x ∈ ns, 0 ≤ x ∧ x ≤ high) := x_tupL (K := K) (x_lcR (jj := 3) (vs := [3]) (n := count) (σ := [some (.ref a), some (.int count), some (.int high), none]) (ea_cons (ev_var (i := 1) rfl) ea_nil) ⟨c0, by omega⟩ (fun _ => rfl) fun i H1 d1 hi =>
      xi_op (A := fun v => 0 ≤ v ∧ v < high + 1) (B := fun i => i = 0 ∨ i = 1) (xi_dr (E := E0) (n := high + 1) (ex_l d1.ex hS) (fun G => ev_var (i := 0) rfl) (xi_op0 (g := fun i j => i + j) (A := fun i => i = high) (B := fun i => i = 1) (xi_ev (ev_var (i := 2) rfl) rfl) (xi_ev ev_c rfl) (fun i j a b => by omega)) (by omega) (by omega))
        (xi_intb (xb_cmp (g := fun i j => decide (j < i)) (B := fun _ => True) (xi_dr (E := E0) (n := 4) (ex_l d1.ex hS) (fun G => ev_var (i := 0) rfl) (xi_ev ev_c rfl) (by decide) (by decide)) (xi_ev (i := 0) ev_c trivial)))
        (R := CMul) (g := fun i j => i * j) fun i j hi hj => ⟨by rcases hj with rfl | rfl <;> exact .inr (by decide), by rcases hj with rfl | rfl <;> simp <;> omega⟩)
    exact hx H (Dr.refl hs) _ fun v H2 d2 ⟨p, ns, e, hp, hl', hA⟩ => by
      subst e
      exact k p ns H2 d2 hp hl' hA
theorem x_amounts {σ : L2.St} {H : Hp} {h l : Addr} {ta tb tc : TE} {E : XK} {cells : List Int} {n w : Int} (hc : SqL K (wn H (hl h l)) l (cells.map V.int)) (ha : ∀ G, Ev ta σ G (.ref h)) (hb : Ev tb σ (wn H (hl h l)) (.int n)) (hw : Ev tc σ (wn H (hl h l)) (.int w)) (n0 : 0 ≤ n) (n1 : n ≤ 1000) (w0 : 0 ≤ w) (w1 : w ≤ 1000000000) :
    EvX (tCall (sp_lawamounts K) [] E (tCons ta (tCons tb (tCons tc tNil)))) σ H h l (TI' fun ns => (ns.length : Int) = n ∧ ∀ x ∈ ns, 0 ≤ x ∧ x ≤ w) :=
  x_call3 (A := fun i => i = n) (B := fun j => j = w) ha (xi_ev hb rfl) (xi_ev hw rfl) fun i j H1 ei ej d1 Q q => by
    subst ei ej
    exact ⟨h, l, cells, i, j, rfl, n0, n1, w0, w1, d1.hs, ex_l d1.ex hc, fun p ns H2 d2 hp e1 e2 => q _ H2 d2 ⟨p, ns, rfl, hp, e1, e2⟩⟩
def sp_changed (K : PySem.W.Frag) : Sp := fun vs H Q _ => ∃ (h l : Addr) (cells : List Int) (t : List Nat), vs = [.ref h, vs_ t] ∧ t.length ≤ 20000 ∧ HS H h l ∧ SqL K (wn H (hl h l)) l (cells.map V.int) ∧ ∀ t' H', t'.length ≤ 2 * t.length + 600 → Dr h l H H' → Q (vs_ t') H'
theorem ok__law_changed (T : Txt K mg Z) : FnOk P w K mg base CX0 2 Z.f__law_changed Z.d__law_changed p__law_changed (sp_changed K) := by
  refine T.F__law_changed.ok sc__law_changed (fun vs H Q E h => ?_) (fun cdv Ar outer s H vs Q E hr h => ?_)
  · obtain ⟨h, l, cells, t, rfl, _⟩ := h
    rfl
  · obtain ⟨h, l, cells, t, rfl, ht, hs, hS, k⟩ := h
    have p9 : (10 : Int) ^ (9 : Int).toNat = 1000000000 := by decide
    refine ⟨_, (pss_cons (ps_par (i := 2) (j := 3) rfl sc__law_changed.nd rfl rfl (by decide) rfl rfl (pa_cons (pe_call (ok__law_drawn T) (hr.mono (by decide)) (by rfl) T.g__law_drawn T.F__law_drawn.kp T.b__law_drawn .nil pass0 (pa_cons (pv 0) (pa_cons (pe_op op_add (pe_callB (r := rLenT) (cr_lenT) (by rfl) T.b_len boot_len (pa_cons (pv 1) pa_nil)) pe_int) pa_nil))) (pa_cons (pe_call (ok__law_drawn T) (hr.mono (by decide)) (by rfl) T.g__law_drawn T.F__law_drawn.kp T.b__law_drawn .nil pass0 (pa_cons (pv 0) (pa_cons pe_int pa_nil))) pa_nil)) (by rfl))
      (pss_cons (ps_setLc (i := 4) (own := [("_law_k", 10)]) rfl sc__law_changed.nd rfl rfl (sw_true rfl rfl rfl (by decide +kernel)) (pi_range1 (by rfl) T.b_range (pa_cons (pe_callB (r := rLenT) (cr_lenT) (by rfl) T.b_len boot_len (pa_cons (pv 1) pa_nil)) pa_nil)) (blkOk_by (own := [("_law_k", 10)]) (N := n__law_changed) (sc := defScope s__law_changed) (scope := { kind := PySem.ScopeKind.function, names := [ (PySem.Str.ofString ".0", PySem.NameKind.local), (PySem.Str.ofString "_law_k", PySem.NameKind.local), (PySem.Str.ofString "_law_text", PySem.NameKind.free)], isGenerator := false, isCoroutine := false, more := [] : PySem.Scope }) (by decide +kernel)) (fun _ _ _ _ _ => (pg_name (i := 10) sc__law_changed.nd rfl (Or.inl rfl))) (fun _ _ _ _ _ => (pts_one (pt_chain op_leS op_leS pe_str (pe_ix (r := rIxS) ix_str (pv 1) (pv 10) (fun _ _ => rfl)) pe_str))) (fun _ _ _ _ _ => (pv 10)))
      (pss_cons (ps_if (pt_cmpR op_eq (pv 3) pe_int (nomark _)) (pss_cons (ps_set (i := 2) sc__law_changed.nd rfl (Or.inl rfl) (pe_ifExp (pt_cmpR (op_neD hr.units) (pv 4) (pe_lst pa_nil) (nomark _)) (pe_ix (r := rIxL K) ix_list (pv 4) (pe_call (ok__law_drawn T) (hr.mono (by decide)) (by rfl) T.g__law_drawn T.F__law_drawn.kp T.b__law_drawn .nil pass0 (pa_cons (pv 0) (pa_cons (pe_callB (r := rLenS K) (call_len_seq) (by rfl) T.b_len boot_len (pa_cons (pv 4) pa_nil)) pa_nil))) (fun _ _ => rfl)) pe_int))
      (pss_one (ps_ret (pe_op op_addS' (pe_op op_addS' (pe_slice (r := C8.rSlX) C8.sl_txt (pv 1) po_none (po_some (pv 2))) pe_str) (pe_slice (r := C8.rSlX) C8.sl_txt (pv 1) (po_some (pe_op op_add (pv 2) pe_int)) po_none))))) pss_nil)
      (pss_cons (ps_set (i := 5) sc__law_changed.nd rfl (Or.inl rfl) (pe_ix (r := rIxS) ix_str pe_str (pe_call (ok__law_drawn T) (hr.mono (by decide)) (by rfl) T.g__law_drawn T.F__law_drawn.kp T.b__law_drawn .nil pass0 (pa_cons (pv 0) (pa_cons pe_int pa_nil))) (fun _ _ => rfl)))
      (pss_cons (ps_set (i := 6) sc__law_changed.nd rfl (Or.inl rfl) (pe_m1 PySem.F.slot_str_split PySem.F.type_str_split mt_spl (pv 1) pe_str))
      (pss_cons (ps_set (i := 7) sc__law_changed.nd rfl (Or.inl rfl) (pe_call (ok__law_drawn T) (hr.mono (by decide)) (by rfl) T.g__law_drawn T.F__law_drawn.kp T.b__law_drawn .nil pass0 (pa_cons (pv 0) (pa_cons (pe_callB (r := rLenS K) (call_len_seq) (by rfl) T.b_len boot_len (pa_cons (pv 6) pa_nil)) pa_nil))))
      (pss_cons (ps_set (i := 8) sc__law_changed.nd rfl (Or.inl rfl) (pe_call (ok__law_line T) (hr.mono (by decide)) (by rfl) T.g__law_line T.F__law_line.kp T.b__law_line .nil pass0 (pa_cons (pe_lc (own := [("_law_k", 10)]) rfl sc__law_changed.nd (pi_range1 (by rfl) T.b_range (pa_cons pe_int pa_nil)) (blkOk_by (own := [("_law_k", 10)]) (N := n__law_changed) (sc := defScope s__law_changed) (scope := { kind := PySem.ScopeKind.function, names := [ (PySem.Str.ofString ".0", PySem.NameKind.local), (PySem.Str.ofString "_law_k", PySem.NameKind.local), (PySem.Str.ofString "_law_grouped", PySem.NameKind.globalImplicit), (PySem.Str.ofString "_law_drawn", PySem.NameKind.globalImplicit), (PySem.Str.ofString "_law_state", PySem.NameKind.free)], isGenerator := false, isCoroutine := false, more := [] : PySem.Scope }) (by decide +kernel)) (fun _ _ _ _ _ => (pg_name (i := 10) sc__law_changed.nd rfl (Or.inl rfl))) (fun _ _ _ _ _ => pts_nil) (fun _ _ _ _ _ => (pe_call (ok__law_grouped T) (hr.mono (by decide)) (by rfl) T.g__law_grouped T.F__law_grouped.kp T.b__law_grouped .nil pass0 (pa_cons (pe_call (ok__law_drawn T) (hr.mono (by decide)) (by rfl) T.g__law_drawn T.F__law_drawn.kp T.b__law_drawn .nil pass0 (pa_cons (pv 0) (pa_cons (pe_op op_pow pe_int pe_int) pa_nil))) pa_nil)))) pa_nil)))
      (pss_cons (ps_set (i := 9) sc__law_changed.nd rfl (Or.inl rfl) (pe_lst (pa_cons (pe_op op_addS' (pe_op op_addS' (pe_slice (r := C8.rSlX) C8.sl_txt (pv 1) po_none (po_some (pv 2))) (pv 5)) (pe_slice (r := C8.rSlX) C8.sl_txt (pv 1) (po_some (pv 2)) po_none)) (pa_cons (pe_op op_addS' (pe_op op_addS' (pe_slice (r := C8.rSlX) C8.sl_txt (pv 1) po_none (po_some (pv 2))) (pv 5)) (pe_slice (r := C8.rSlX) C8.sl_txt (pv 1) (po_some (pe_op op_add (pv 2) pe_int)) po_none)) (pa_cons (pe_op op_addS' (pe_slice (r := C8.rSlX) C8.sl_txt (pv 1) po_none (po_some (pv 2))) (pe_slice (r := C8.rSlX) C8.sl_txt (pv 1) (po_some (pe_op op_add (pv 2) pe_int)) po_none)) (pa_cons (pv 1) pa_nil))))))
      (pss_cons (ps_set (i := 9) sc__law_changed.nd rfl (Or.inl rfl) (pe_op op_cat (pv 9) (pe_lst (pa_cons (pe_m1 PySem.F.slot_str_join PySem.F.type_str_join (mt_jn K rfl) pe_str (pe_op op_cat (pe_slice (r := rSlL K) sl_list (pv 6) po_none (po_some (pv 7))) (pe_slice (r := rSlL K) sl_list (pv 6) (po_some (pe_op op_add (pv 7) pe_int)) po_none))) (pa_cons (pe_m1 PySem.F.slot_str_join PySem.F.type_str_join (mt_jn K rfl) pe_str (pe_op op_cat (pe_slice (r := rSlL K) sl_list (pv 6) po_none (po_some (pe_op op_add (pv 7) pe_int))) (pe_slice (r := rSlL K) sl_list (pv 6) (po_some (pv 7)) po_none))) pa_nil)))))
      (pss_cons (ps_expr (pe_bm PySem.F.plainAttrs_list PySem.F.slot_list_append PySem.F.type_list_append mt_append (pv 9) (pa_cons (pe_m1 PySem.F.slot_str_join PySem.F.type_str_join (mt_jn K rfl) pe_str (pe_op op_cat (pe_op op_cat (pe_slice (r := rSlL K) sl_list (pv 6) po_none (po_some (pe_op op_add (pv 7) pe_int))) (pe_lst (pa_cons (pv 8) pa_nil))) (pe_slice (r := rSlL K) sl_list (pv 6) (po_some (pe_op op_add (pv 7) pe_int)) po_none))) pa_nil)))
      (pss_one (ps_ret (pe_ix (r := rIxL K) ix_list (pv 9) (pv 3) (fun _ _ => rfl)))))))))))))), ?_⟩
    refine x_par hs (P := fun v _ => ∃ i, v = .int i ∧ (0 ≤ i ∧ i < (t.length : Int) + 1)) (Q := fun v _ => ∃ i, v = .int i ∧ (0 ≤ i ∧ i < 8))
      (xi_dr (cells := cells) (n := (t.length : Int) + 1) hS (fun G => ev_var rfl) (xi_op0 (g := fun i j => i + j) (A := fun i => i = (t.length : Int)) (B := fun i => i = 1) (xi_ev (ev_lnT (ev_var rfl) (by omega)) rfl) (xi_ev ev_c rfl) (fun i j a b => by omega)) (by omega) (by omega))
      (xi_dr (cells := cells) (n := 8) hS (fun G => ev_var rfl) (xi_ev ev_c rfl) (by decide) (by decide)) fun v1 v2 Ha H1 da db ⟨at', ev1, ha0, ha1⟩ ⟨br, ev2, hb0, hb1⟩ => ?_
    subst ev1 ev2
    have d1 := da.trans db
    have hs1 := d1.hs
    have hS1 := ex_l d1.ex hS
    -- the places of figures
    refine q_asgL (xs := given (t.length : Int).toNat (fun i => isD (t.getD i 0)) (fun i => .int (i : Int))) (el_lcR1 (n := (t.length : Int)) (fun i => isD (t.getD i 0)) (fun i => .int (i : Int)) (ea_cons (ev_lnT (ev_var rfl) (by omega)) ea_nil) ⟨by omega, by omega⟩ (fun _ => rfl) (fun i G e hi => ?_) (fun i G e hi _ => ev_var rfl)) fun F H2 nF e2 hF => ?_
    · have lt : i < t.length := by omega
      have hc : t[i]? = some (t.getD i 0) := by simp [List.getD, lt]
      exact et_test (ev_inD (ev_ixSt (ev_var rfl) (ev_var rfl) hc (by omega)) (ev_cS (by decide +kernel)) (ev_cS (by decide +kernel)))
    have d2 := d1.trans (Dr.of hs1 e2)
    have hs2 := d2.hs
    have hS2 := ex_l d2.ex hS
    obtain ⟨fg, efg, hfg⟩ : ∃ fg : List Int, given (t.length : Int).toNat (fun i => isD (t.getD i 0)) (fun i => .int (i : Int)) = fg.map V.int ∧ ∀ x ∈ fg, 0 ≤ x ∧ x < (t.length : Int) := by
      refine ⟨((List.range t.length).filter fun i => isD (t.getD i 0)).map fun (i : Nat) => (i : Int), ?_, fun x hx => ?_⟩
      · unfold given
        rw [Int.toNat_natCast, List.map_map]; rfl
      · obtain ⟨j, hj, rfl⟩ := List.mem_map.mp hx
        have := List.mem_range.mp (List.mem_filter.mp hj).1
        omega
    rw [efg] at hF
    have nFh : ¬ hl h l F := hl_new (G' := H1) hs1 nF
    have hF2 : wn H2 (hl h l) F = some (.lst (fg.map V.int)) := (wn_ni nFh).trans hF
    have lfg : fg.length ≤ t.length := by
      have z := congrArg List.length efg
      rw [List.length_map] at z
      rw [← z]
      have := given_len (t.length : Int).toNat (fun i => isD (t.getD i 0)) (fun i => V.int (i : Int))
      omega
    refine q_when (b := decide (br = 7)) (et_is (et_test (ev_op (ev_var rfl) ev_c (rv_eq rfl))) (by
      apply decide_eq_decide.mpr
      exact ⟨fun z => V.int.inj z, fun z => by rw [z]⟩)) (fun hb H3 e3 => ?_) fun hb H3 e3 => ?_
    · have d3 := d2.trans (Dr.of hs2 e3)
      have hs3 := d3.hs
      have hS3 := ex_l d3.ex hS
      have hF3 : wn H3 (hl h l) F = some (.lst (fg.map V.int)) := (wn_ni nFh).trans (e3 _ _ hF)
      refine x_asgI (A := fun i => 0 ≤ i ∧ i ≤ (t.length : Int)) hs3 (x_ifI (b := !decide (fg = [])) (fun G dG => et_test (ev_neLN (bs := []) (ev_var rfl) (sq_of (wn_ex _ _ (dG.ex _ _ hF3))) (el_lst ea_nil (by show 0 ≤ 100000; decide)))) (fun hne => EvI.imp (xi_ixL (F := F) (ns := fg) (fun G => ev_var rfl) hF3 (EvI.imp (xi_dr (cells := cells) (n := (fg.length : Int)) hS3 (fun G => ev_var rfl) (xi_ev (i := (fg.length : Int)) (Ev.int_eq (ev_len (ev_var rfl) (sq_of hF3)) (by rw [List.length_map])) rfl) (by
          have : fg ≠ [] := by simpa using hne
          have := List.length_pos_iff.mpr this
          omega) (by omega)) (fun i q => q))) fun i hi => by have := hfg i hi; omega) (fun _ => xi_ev (i := 0) ev_c ⟨by decide, by omega⟩)) fun a2 H4 d4 ha2 => ?_
      refine s_ret (v := vs_ ((t.take a2.toNat ++ [44]) ++ t.drop (a2 + 1).toNat)) (ev_addS (ev_addS (ev_to (ev_var rfl) (ev_var rfl) ha2.1 (by omega)) (ev_cS (l := [44]) (by decide +kernel)) (by rw [List.length_take]; show _ + 1 ≤ _; omega)) (ev_from (i := a2 + 1) (ev_var rfl) (ev_op (ev_var rfl) ev_c rv_I0) (by omega) (by omega)) (by rw [List.length_append, List.length_take, List.length_drop]; show _ + 1 + _ ≤ _; omega)) fun H5 e5 => k _ H5 ?_ ((d3.trans d4).trans (Dr.of d4.hs e5))
      rw [List.length_append, List.length_append, List.length_take, List.length_drop]
      show _ + 1 + _ ≤ _
      omega
    · have hb7 : br < 7 := by
        have z : ¬ br = 7 := of_decide_eq_false hb
        omega
      have d3 := d2.trans (Dr.of hs2 e3)
      have hs3 := d3.hs
      have hS3 := ex_l d3.ex hS
      clear hF2 hF nF nFh hfg lfg efg
      refine x_asg hs3 (x_ixS (s := [32, 10, 48, 49, 50, 51, 52, 53, 54, 55, 56, 57, 44, 45, 100]) (fun G => ev_cS (by decide +kernel)) (by decide) (EvI.imp (xi_dr (cells := cells) (n := 15) hS3 (fun G => ev_var rfl) (xi_ev ev_c rfl) (by decide) (by decide)) (fun i q => q))) fun vc H4 d4 ⟨c, ec⟩ => ?_
      subst ec
      have d4' := d3.trans d4
      have hs4 := d4'.hs
      refine q_asgL (xs := (TL.spl [10] 0 [] t).map vs_) (el_spl (c := 10) (by decide) (ev_var rfl) (ev_cS (by decide +kernel)) (by omega)) fun A H5 nA e5 hA => ?_
      have d5 := d4'.trans (Dr.of hs4 e5)
      have hs5 := d5.hs
      have hS5 := ex_l d5.ex hS
      have hw := spl_wt t []
      have hcn := spl_cnt t []
      generalize TL.spl [10] 0 [] t = L at hA hw hcn
      have nAh : ¬ hl h l A := hl_new (G' := H4) hs4 nA
      have hA5 : wn H5 (hl h l) A = some (.lst (L.map vs_)) := (wn_ni nAh).trans hA
      refine x_asgI (A := fun i => 0 ≤ i ∧ i < (L.length : Int)) hs5 (xi_dr (cells := cells) (n := (L.length : Int)) hS5 (fun G => ev_var rfl) (xi_ev (i := (L.length : Int)) (Ev.int_eq (ev_len (ev_var rfl) (sq_of hA5)) (by rw [List.length_map])) rfl) (by omega) (by omega)) fun row H6 d6 hrow => ?_
      have d6' := d5.trans d6
      have hs6 := d6'.hs
      have hS6 := ex_l d6'.ex hS
      have hA6 : wn H6 (hl h l) A = some (.lst (L.map vs_)) := d6.ex _ _ hA5
      obtain ⟨r, er⟩ : ∃ r : Nat, row = (r : Int) := ⟨row.toNat, by omega⟩
      subst er
      -- one line more
      refine x_asg (P := fun v _ => ∃ s : List Nat, v = vs_ s ∧ s.length ≤ 500) hs6 (x_call1X (x_lcS (n := 5) (P := fun s => s.length ≤ 80) (ea_cons ev_c ea_nil) (by decide) (fun _ => rfl) (fun i G2 g2 => x_call1X (P := fun v _ => ∃ i, v = .int i ∧ (0 ≤ i ∧ i < 1000000000)) (xi_dr (cells := cells) (n := 1000000000) (ex_l g2.ex hS6) (fun G => ev_var rfl) (xi_ev (Ev.int_eq (ev_op ev_c ev_c (rv_I ⟨by decide, by decide, by decide⟩)) p9) rfl) (by decide) (by decide)) fun v G4 g4 ⟨j, ej, j0, j1⟩ Q q => by
        subst ej
        have ej : j = ((j.toNat : Nat) : Int) := by omega
        rw [ej]
        have sm : j.toNat < 10 ^ 40 := Nat.lt_of_lt_of_le (show j.toNat < 1000000000 by omega) (by decide)
        exact ⟨j.toNat, rfl, sm, fun G5 g5 => q _ G5 (Dr.of g4.hs g5) ⟨G j.toNat, rfl, g_len sm⟩⟩)) fun v G2 g2 ⟨p, ls, ep, hp, lp, hP⟩ Q q => by
          subst ep
          exact ⟨p, ls, rfl, sq_of (wn_ex _ _ hp), lp, fun c hc => Nat.le_trans (hP c hc) (by decide), fun G3' g3 => q _ G3' (Dr.of g2.hs g3) ⟨_, rfl, lineW_len ws5 ls (by decide) fun c hc => Nat.le_trans (hP c hc) (by decide)⟩⟩) fun ve H7 d7 ⟨ex, ee, lex⟩ => ?_
      subst ee
      have d7' := d6'.trans d7
      have hs7 := d7'.hs
      have hA7 : H7 A = some (.lst (L.map vs_)) := wn_ex _ _ (d7.ex _ _ hA6)
      have lt1 : (t.take at'.toNat).length ≤ t.length := by rw [List.length_take]; omega
      have lt2 : (t.drop at'.toNat).length ≤ t.length := by rw [List.length_drop]; omega
      have lt3 : (t.drop (at' + 1).toNat).length ≤ t.length := by rw [List.length_drop]; omega
      have lt4 : (t.take at'.toNat).length + (t.drop at'.toNat).length = t.length := by rw [List.length_take, List.length_drop]; omega
      have lt5 : (t.drop (at' + 1).toNat).length ≤ (t.drop at'.toNat).length := by rw [List.length_drop, List.length_drop]; omega
      have l1 : ([c] : List Nat).length = 1 := rfl
      have eTo : ∀ {σ2 : L2.St} {G : Hp}, σ2[1]? = some (some (vs_ t)) → σ2[2]? = some (some (.int at')) → Ev (tSl C8.rSlX (tVar 1) tNoPart (tPart (tVar 2))) σ2 G (vs_ (t.take at'.toNat)) := fun h1 h2 => ev_to (ev_var h1) (ev_var h2) ha0 (by omega)
      refine q_asgL (xs := ([t.take at'.toNat ++ [c] ++ t.drop at'.toNat, t.take at'.toNat ++ [c] ++ t.drop (at' + 1).toNat, t.take at'.toNat ++ t.drop (at' + 1).toNat, t] : List (List Nat)).map vs_) (el_lst (ea_cons (ev_addS (ev_addS (eTo rfl rfl) (ev_var rfl) (by omega)) (ev_from (ev_var rfl) (ev_var rfl) ha0 (by omega)) (by rw [List.length_append]; omega)) (ea_cons (ev_addS (ev_addS (eTo rfl rfl) (ev_var rfl) (by omega)) (ev_from (i := at' + 1) (ev_var rfl) (ev_op (ev_var rfl) ev_c rv_I0) (by omega) (by omega)) (by rw [List.length_append]; omega)) (ea_cons (ev_addS (eTo rfl rfl) (ev_from (i := at' + 1) (ev_var rfl) (ev_op (ev_var rfl) ev_c rv_I0) (by omega) (by omega)) (by omega)) (ea_cons (ev_var rfl) ea_nil)))) (by show 4 ≤ 100000; decide)) fun M H8 nM e8 hM => ?_
      have d8 := d7'.trans (Dr.of hs7 e8)
      have hs8 := d8.hs
      have hA8 := e8 _ _ hA7
      have w1 := wt_cut L r
      have w2 := wt_cut L (r + 1)
      have jl : ∀ ls : List (List Nat), wt ls ≤ 70000 → (ls.map (·.length)).sum + ls.length * ([10] : List Nat).length ≤ 16777216 := fun ls hls => by
        unfold wt at hls
        show _ + ls.length * 1 ≤ _
        omega
      have w0 : wt L = t.length + 1 := by rw [hw]; simp
      have we : wt [ex] = ex.length + 1 := by unfold wt; simp
      have er1 : ((r : Int) + 1) = ((r + 1 : Nat) : Int) := by omega
      have lL : (L.map vs_).length ≤ 30000 := by rw [List.length_map]; omega
      have tkl : ∀ n, ((L.map vs_).take n).length ≤ 30000 := fun n => by rw [List.length_take]; omega
      have dpl : ∀ n, ((L.map vs_).drop n).length ≤ 30000 := fun n => by rw [List.length_drop]; omega
      have eTk : ∀ {σ2 : L2.St} {G : Hp} {th : TE} {n : Nat}, Ex H8 G → σ2[6]? = some (some (.ref A)) → Ev th σ2 G (.int (n : Int)) → EvL (tSl (rSlL K) (tVar 6) tNoPart (tPart th)) σ2 G ((L.map vs_).take n) := fun e h1 h2 => el_takeV (ev_var h1) (sq_of (e _ _ hA8)) h2
      have eDp : ∀ {σ2 : L2.St} {G : Hp} {th : TE} {n : Nat}, Ex H8 G → σ2[6]? = some (some (.ref A)) → Ev th σ2 G (.int (n : Int)) → EvL (tSl (rSlL K) (tVar 6) (tPart th) tNoPart) σ2 G ((L.map vs_).drop n) := fun e h1 h2 => el_dropV (ev_var h1) h2 (sq_of (e _ _ hA8))
      refine q_asgL (xs := ([t.take at'.toNat ++ [c] ++ t.drop at'.toNat, t.take at'.toNat ++ [c] ++ t.drop (at' + 1).toNat, t.take at'.toNat ++ t.drop (at' + 1).toNat, t] : List (List Nat)).map vs_ ++ ([TL.joinL [10] (L.take r ++ L.drop (r + 1)), TL.joinL [10] (L.take (r + 1) ++ L.drop r)] : List (List Nat)).map vs_) (el_cat (ev_var rfl) hM (el_lst (ea_cons (ev_jn (ls := L.take r ++ L.drop (r + 1)) (c := [10]) (ev_cS (by decide +kernel)) (el_is (el_catN (eTk (Ex.refl _) rfl (ev_var rfl)) (eDp (Ex.refl _) rfl (Ev.int_eq (ev_op (ev_var rfl) ev_c rv_I0) er1)) (by have := tkl r; have := dpl (r + 1); omega)) (by rw [← List.map_take, ← List.map_drop, ← List.map_append])) (jl _ (by rw [wt_app]; omega))) (ea_cons (ev_jn (ls := L.take (r + 1) ++ L.drop r) (c := [10]) (ev_cS (by decide +kernel)) (el_is (el_catN (eTk (Ex.refl _) rfl (Ev.int_eq (ev_op (ev_var rfl) ev_c rv_I0) er1)) (eDp (Ex.refl _) rfl (ev_var rfl)) (by have := tkl (r + 1); have := dpl r; omega)) (by rw [← List.map_take, ← List.map_drop, ← List.map_append])) (jl _ (by rw [wt_app]; omega))) ea_nil)) (by show 2 ≤ 100000; decide)) (by show 4 + 2 ≤ 100000; decide)) fun M2 H9 nM2 e9 hM2 => ?_
      have d9 := d8.trans (Dr.of hs8 e9)
      have hs9 := d9.hs
      refine q_app hM2 (ev_var rfl) (v := vs_ (TL.joinL [10] (L.take (r + 1) ++ [ex] ++ L.drop (r + 1)))) (ev_jn (ls := L.take (r + 1) ++ [ex] ++ L.drop (r + 1)) (c := [10]) (ev_cS (by decide +kernel)) (el_is (el_catN (el_catN (eTk e9 rfl (Ev.int_eq (ev_op (ev_var rfl) ev_c rv_I0) er1)) (el_lst (ea_cons (ev_var rfl) ea_nil) (by show 1 ≤ 100000; decide)) (by have := tkl (r + 1); show _ + 1 ≤ _; omega)) (eDp e9 rfl (Ev.int_eq (ev_op (ev_var rfl) ev_c rv_I0) er1)) (by rw [List.length_append]; have := tkl (r + 1); have := dpl (r + 1); show _ + 1 + _ ≤ _; omega)) (by rw [← List.map_take, ← List.map_drop, List.map_append, List.map_append]; rfl)) (jl _ (by rw [wt_app, wt_app, we]; omega))) (by show 6 < 100000; decide) fun H10 e10 => ?_
      have nM2h : ¬ hl h l M2 := hl_new (G' := H8) hs8 nM2
      obtain ⟨n, en⟩ : ∃ n : Nat, br = (n : Int) := ⟨br.toNat, by omega⟩
      subst en
      have n7 : n < 7 := by omega
      have j1 := joinL_le (L.take r ++ L.drop (r + 1))
      have j2 := joinL_le (L.take (r + 1) ++ L.drop r)
      have j3 := joinL_le (L.take (r + 1) ++ [ex] ++ L.drop (r + 1))
      rw [wt_app] at j1 j2
      rw [wt_app, wt_app] at j3
      have M2none : ∀ b u, wn H (hl h l) b = some u → b ≠ M2 := fun b u hb z => by
        have q := d8.ex b u hb
        rw [z, wn_ni nM2h, nM2] at q; cases q
      obtain ⟨s, hs', ls⟩ : ∃ s : List Nat, (([t.take at'.toNat ++ [c] ++ t.drop at'.toNat, t.take at'.toNat ++ [c] ++ t.drop (at' + 1).toNat, t.take at'.toNat ++ t.drop (at' + 1).toNat, t, TL.joinL [10] (L.take r ++ L.drop (r + 1)), TL.joinL [10] (L.take (r + 1) ++ L.drop r), TL.joinL [10] (L.take (r + 1) ++ [ex] ++ L.drop (r + 1))] : List (List Nat)).map vs_)[n]? = some (vs_ s) ∧ s.length ≤ 2 * t.length + 600 := by
        match n, n7 with
        | 0, _ => exact ⟨_, rfl, by rw [List.length_append, List.length_append]; omega⟩
        | 1, _ => exact ⟨_, rfl, by rw [List.length_append, List.length_append]; omega⟩
        | 2, _ => exact ⟨_, rfl, by rw [List.length_append]; omega⟩
        | 3, _ => exact ⟨_, rfl, by omega⟩
        | 4, _ => exact ⟨_, rfl, by omega⟩
        | 5, _ => exact ⟨_, rfl, by omega⟩
        | 6, _ => exact ⟨_, rfl, by omega⟩
      refine s_ret (v := vs_ s) (ev_ixL (i := (n : Int)) (ev_var rfl) (sq_of upd_same) (ev_var rfl) (atI_nat hs')) fun H11 e11 => k s H11 ls ?_
      have dG : Dr h l H (upd H10 M2 (.lst ((([t.take at'.toNat ++ [c] ++ t.drop at'.toNat, t.take at'.toNat ++ [c] ++ t.drop (at' + 1).toNat, t.take at'.toNat ++ t.drop (at' + 1).toNat, t] : List (List Nat)).map vs_ ++ ([TL.joinL [10] (L.take r ++ L.drop (r + 1)), TL.joinL [10] (L.take (r + 1) ++ L.drop r)] : List (List Nat)).map vs_) ++ [vs_ (TL.joinL [10] (L.take (r + 1) ++ [ex] ++ L.drop (r + 1)))]))) := ⟨by
          obtain ⟨p0, m, r2, a1, rr⟩ := hs9.mono e10
          exact ⟨p0, m, r2, by rw [upd_ne (fun z => nM2h z.symm)]; exact a1, rr⟩, fun b u hb => by
          obtain ⟨q1, q2⟩ := wn_some hb
          have z := (d9.trans (Dr.of hs9 e10)).ex b u hb
          rw [wn_ni q1] at z ⊢
          rw [upd_ne (M2none b u hb)]
          exact z⟩
      exact dG.trans (Dr.of dG.hs e11)
end Sw
namespace Sw
open PySem PySem.Spec PyProof.Rows L2 Evl LamX NdefX
local macro_rules | `(tactic| walk_at "ev") => `(tactic| first
  | exact ev_c
  | exact ev_var rfl
  | ((with_reducible show Ev (tCB rMax2 _) _ _ _); exact ev_maxi (by walk_at "ev") (by walk_at "ev"))
  | ((with_reducible show Ev (tCB rMn _) _ _ _); exact ev_min2 (by walk_at "ev") (by walk_at "ev"))
  | ((with_reducible show Ev (tUn _ _) _ _ _); exact ev_un (by walk_at "ev") ru_neg)
  | ((with_reducible show Ev (tFld _ _ _) _ _ _); exact ev_fldK (by walk_at "ev") (by assumption))
  | ((with_reducible show Ev (tOp (rI0 _) _ _) _ _ _); exact ev_op (by walk_at "ev") (by walk_at "ev") rv_I0)
  | ((with_reducible show Ev (tOp rEq _ _) _ _ _); exact ev_op (by walk_at "ev") (by walk_at "ev") (rv_eq rfl))
  | ((with_reducible show Ev (tOp rNe _ _) _ _ _); exact ev_op (by walk_at "ev") (by walk_at "ev") (rv_ne rfl)))

/-! ### isinstance, and two values that are alike -/
def Tyn (K : PySem.W.Frag) (H : Hp) (x : V) (n : String) : Prop := (∃ i, x = .int i ∧ n = "int") ∨ (x = .non ∧ n = "NoneType") ∨ (∃ a xs, x = .ref a ∧ SqT K H a xs ∧ n = "tuple") ∨ (∃ a xs, x = .ref a ∧ SqL K H a xs ∧ n = "list") ∨ (∃ st : Str, x = .str st ∧ n = "str")
section
variable {K : PySem.W.Frag} {σ : L2.St} {H H' : Hp} {ta tb te tx : TE} {x y z v : V} {a b : Addr} {xs ys : List V} {n m : String} {r : Bool}
theorem Tyn.mono (e : Ex H H') (h : Tyn K H x n) : Tyn K H' x n := by
  rcases h with h | h | ⟨a, xs, h1, h2, h3⟩ | ⟨a, xs, h1, h2, h3⟩ | h
  · exact .inl h
  · exact .inr (.inl h)
  · exact .inr (.inr (.inl ⟨a, xs, h1, ex_t e h2, h3⟩))
  · exact .inr (.inr (.inr (.inl ⟨a, xs, h1, ex_l e h2, h3⟩)))
  · exact .inr (.inr (.inr (.inr h)))
theorem Tyn.ty (h : Tyn K H x n) : TyX K H x (.type n) := by
  rcases h with ⟨i, rfl, rfl⟩ | ⟨rfl, rfl⟩ | ⟨a, xs, rfl, h2, rfl⟩ | ⟨a, xs, rfl, h2, rfl⟩ | ⟨st, rfl, rfl⟩
  · exact .base (.int i)
  · exact .base .non
  · rcases h2 with (h | ⟨o, h⟩) | ⟨o, its, k, h1, h2, _⟩
    · exact .base (.tup h)
    · exact .fTuple h
    · exact .kTuple h1 h2
  · rcases h2 with (h | ⟨o, h⟩) | ⟨o, its, k, h1, h2, _⟩
    · exact .base (.lst h)
    · exact .base (.frz h)
    · exact .kList h1 h2
  · exact .base (.str st)
theorem ev_isi (h : Ev ta σ H x) (ty : Tyn K H x n) (e : kitB n m = some r) : Ev (tCB (rIsi K) (tCons ta (tCons (tC (.ty m)) tNil))) σ H (.bl r) := fun H1 e1 Q q =>
  h H1 e1 _ fun H2 e2 => ⟨x, .ty m, .type n, .type m, r, rfl, .ty m, (ty.mono (e1.trans e2)).ty, kit_ty e, q H2 e2⟩
theorem ev_isiT {r1 r2 : Bool} (h : Ev ta σ H x) (ty : Tyn K H x n) (e : kitB n "tuple" = some r1) (e' : kitB n "list" = some r2) : Ev (tCB (rIsiT K) (tCons ta (tCons (tTup (tCons (tC (.ty "tuple")) (tCons (tC (.ty "list")) tNil))) tNil))) σ H (.bl (r1 || r2)) := fun H1 e1 Q q =>
  h H1 e1 _ fun H2 e2 => ⟨by show 2 ≤ sizeLine; decide, fun p hp => ⟨x, p, [.ty "tuple", .ty "list"], .type n, [.type "tuple", .type "list"], r1 || r2, rfl, upd_same, .cons (.ty _) (.cons (.ty _) .nil), (ty.mono ((e1.trans e2).trans (Ex.new hp))).ty, by
    refine kitAny_cons (kit_ty e) (fun h1 => ?_) (fun h1 => by rw [h1]; rfl)
    refine kitAny_cons (kit_ty e') (fun h2 => ?_) (fun h2 => by rw [h1, h2]; rfl)
    rw [h1, h2]; exact kitAny_nil, q _ (e2.trans (Ex.new hp))⟩⟩
end
def AlS (x y : V) : Prop := (∃ i, x = .int i ∧ y = .int i) ∨ (x = .non ∧ y = .non) ∨ ∃ st : Str, x = .str st ∧ y = .str st
/-- x and y stand for equal data, at most n deep -/
def Alk (K : PySem.W.Frag) (H : Hp) : Nat → V → V → Prop
  | 0, x, y => AlS x y
  | n + 1, x, y => AlS x y ∨ ∃ a b xs ys, x = .ref a ∧ y = .ref b ∧ (SqT K H a xs ∧ SqT K H b ys ∨ SqL K H a xs ∧ SqL K H b ys) ∧ xs.length = ys.length ∧ xs.length ≤ 40000 ∧ ∀ (i : Nat) u v, xs[i]? = some u → ys[i]? = some v → Alk K H n u v
theorem Alk.mono {K : PySem.W.Frag} {H H' : Hp} (e : Ex H H') : ∀ n x y, Alk K H n x y → Alk K H' n x y
  | 0, _, _, h => h
  | n + 1, x, y, h => by
    rcases h with h | ⟨a, b, xs, ys, h1, h2, h3, h4, h5, h6⟩
    · exact .inl h
    · refine .inr ⟨a, b, xs, ys, h1, h2, ?_, h4, h5, fun i u v q1 q2 => Alk.mono e n u v (h6 i u v q1 q2)⟩
      rcases h3 with h3 | h3
      · exact .inl ⟨ex_t e h3.1, ex_t e h3.2⟩
      · exact .inr ⟨ex_l e h3.1, ex_l e h3.2⟩
def sp_same (K : PySem.W.Frag) (n : Nat) : Sp := fun vs H Q _ => ∃ x y, vs = [x, y] ∧ Alk K H n x y ∧ RetV (.bl true) H Q
theorem spv_same {K : PySem.W.Frag} {n : Nat} {H : Hp} {x y : V} (h : Alk K H n x y) : SpV (sp_same K n) [x, y] H (.bl true) := fun _ e _ q _ => ⟨x, y, rfl, h.mono e, q⟩
variable {P : Program} {w : World} {K : PySem.W.Frag} {mg : Str → Option Value} {base : Heap} {Z : Ad}
theorem ok__law_same (T : Txt K mg Z) (n : Nat) : FnOk P w K mg base CX0 (n + 1) Z.f__law_same Z.d__law_same p__law_same (sp_same K n) := by
  induction n with
  | zero =>
    refine T.F__law_same.ok sc__law_same (fun vs H Q E h => ?_) (fun cdv Ar outer s H vs Q E hr h => ?_)
    · obtain ⟨x, y, rfl, _⟩ := h
      rfl
    · obtain ⟨x, y, rfl, hA, k⟩ := h
      have hA : AlS x y := hA
      refine ⟨_, (pss_cons (ps_if (pt_val (pe_callB (r := rIsiT K) (call_isiT) (by rfl) T.b_isinstance boot_isinstance (pa_cons (pv 1) (pa_cons (pe_tup (pa_cons (pe_bltn (v := .ty "tuple") (by rfl) T.b_tuple boot_tuple rfl) (pa_cons (pe_bltn (v := .ty "list") (by rfl) T.b_list boot_list rfl) pa_nil))) pa_nil)))) (pss_cons ps_no
      (pss_cons ps_no
      (pss_one ps_no))) pss_nil)
      (pss_cons (ps_if (pt_cmpR op_ne (pe_callB (r := rIsi K) (call_isi) (by rfl) T.b_isinstance boot_isinstance (pa_cons (pv 0) (pa_cons (pe_bltn (v := .ty "bool") (by rfl) T.b_bool boot_bool rfl) pa_nil))) (pe_callB (r := rIsi K) (call_isi) (by rfl) T.b_isinstance boot_isinstance (pa_cons (pv 1) (pa_cons (pe_bltn (v := .ty "bool") (by rfl) T.b_bool boot_bool rfl) pa_nil))) (nomark _)) (pss_one (ps_ret pe_bl)) pss_nil)
      (pss_one (ps_ret (pe_and (pe_cmpR op_eq (pe_callB (r := rIsi K) (call_isi) (by rfl) T.b_isinstance boot_isinstance (pa_cons (pv 0) (pa_cons (pe_bltn (v := .ty "int") (by rfl) T.b_int boot_int rfl) pa_nil))) (pe_callB (r := rIsi K) (call_isi) (by rfl) T.b_isinstance boot_isinstance (pa_cons (pv 1) (pa_cons (pe_bltn (v := .ty "int") (by rfl) T.b_int boot_int rfl) pa_nil))) (nomark _)) (pe_one (pe_cmpR op_eq (pv 0) (pv 1) (nomark _)))))))), ?_⟩
      rcases hA with ⟨i, rfl, rfl⟩ | ⟨rfl, rfl⟩ | ⟨st, rfl, rfl⟩
      · have ty : ∀ {G : Hp}, Tyn K G (.int i) "int" := .inl ⟨i, rfl, rfl⟩
        refine q_when (b := false) (et_B (ev_isiT (n := "int") (r1 := false) (r2 := false) (ev_var rfl) ty (by decide +kernel) (by decide +kernel))) (fun hb => nomatch hb) fun _ H1 e1 => ?_
        refine q_when (b := false) (et_test (ev_is (ev_op (ev_isi (n := "int") (m := "bool") (r := false) (ev_var rfl) ty (by decide +kernel)) (ev_isi (n := "int") (m := "bool") (r := false) (ev_var rfl) ty (by decide +kernel)) (rv_ne rfl)) (by simp))) (fun hb => nomatch hb) fun _ H2 e2 => ?_
        exact s_ret (v := .bl true) (ev_andV (a := true) (b := true) (ev_is (ev_op (ev_isi (n := "int") (m := "int") (r := true) (ev_var rfl) ty (by decide +kernel)) (ev_isi (n := "int") (m := "int") (r := true) (ev_var rfl) ty (by decide +kernel)) (rv_eq rfl)) (by simp)) fun _ => ev_is (ev_op (ev_var rfl) (ev_var rfl) (rv_eq rfl)) (by simp)) fun H3 e3 => k H3 ((e1.trans e2).trans e3)
      · have ty : ∀ {G : Hp}, Tyn K G .non "NoneType" := .inr (.inl ⟨rfl, rfl⟩)
        refine q_when (b := false) (et_B (ev_isiT (n := "NoneType") (r1 := false) (r2 := false) (ev_var rfl) ty (by decide +kernel) (by decide +kernel))) (fun hb => nomatch hb) fun _ H1 e1 => ?_
        refine q_when (b := false) (et_test (ev_is (ev_op (ev_isi (n := "NoneType") (m := "bool") (r := false) (ev_var rfl) ty (by decide +kernel)) (ev_isi (n := "NoneType") (m := "bool") (r := false) (ev_var rfl) ty (by decide +kernel)) (rv_ne rfl)) (by simp))) (fun hb => nomatch hb) fun _ H2 e2 => ?_
        exact s_ret (v := .bl true) (ev_andV (a := true) (b := true) (ev_is (ev_op (ev_isi (n := "NoneType") (m := "int") (r := false) (ev_var rfl) ty (by decide +kernel)) (ev_isi (n := "NoneType") (m := "int") (r := false) (ev_var rfl) ty (by decide +kernel)) (rv_eq rfl)) (by simp)) fun _ => ev_is (ev_op (ev_var rfl) (ev_var rfl) (rv_eq rfl)) (by simp)) fun H3 e3 => k H3 ((e1.trans e2).trans e3)
      · have ty : ∀ {G : Hp}, Tyn K G (.str st) "str" := .inr (.inr (.inr (.inr ⟨st, rfl, rfl⟩)))
        refine q_when (b := false) (et_B (ev_isiT (n := "str") (r1 := false) (r2 := false) (ev_var rfl) ty (by decide +kernel) (by decide +kernel))) (fun hb => nomatch hb) fun _ H1 e1 => ?_
        refine q_when (b := false) (et_test (ev_is (ev_op (ev_isi (n := "str") (m := "bool") (r := false) (ev_var rfl) ty (by decide +kernel)) (ev_isi (n := "str") (m := "bool") (r := false) (ev_var rfl) ty (by decide +kernel)) (rv_ne rfl)) (by simp))) (fun hb => nomatch hb) fun _ H2 e2 => ?_
        exact s_ret (v := .bl true) (ev_andV (a := true) (b := true) (ev_is (ev_op (ev_isi (n := "str") (m := "int") (r := false) (ev_var rfl) ty (by decide +kernel)) (ev_isi (n := "str") (m := "int") (r := false) (ev_var rfl) ty (by decide +kernel)) (rv_eq rfl)) (by simp)) fun _ => ev_is (ev_op (ev_var rfl) (ev_var rfl) (rv_eq rfl)) (by simp)) fun H3 e3 => k H3 ((e1.trans e2).trans e3)
  | succ n ih =>
    refine T.F__law_same.ok sc__law_same (fun vs H Q E h => ?_) (fun cdv Ar outer s H vs Q E hr h => ?_)
    · obtain ⟨x, y, rfl, _⟩ := h
      rfl
    · obtain ⟨x, y, rfl, hA, k⟩ := h
      rcases hA with hA | ⟨a, b, xs, ys, rfl, rfl, hS, hl, hz, hA⟩
      · refine ⟨_, (pss_cons (ps_if (pt_val (pe_callB (r := rIsiT K) (call_isiT) (by rfl) T.b_isinstance boot_isinstance (pa_cons (pv 1) (pa_cons (pe_tup (pa_cons (pe_bltn (v := .ty "tuple") (by rfl) T.b_tuple boot_tuple rfl) (pa_cons (pe_bltn (v := .ty "list") (by rfl) T.b_list boot_list rfl) pa_nil))) pa_nil)))) (pss_cons ps_no
      (pss_cons ps_no
      (pss_one ps_no))) pss_nil)
      (pss_cons (ps_if (pt_cmpR op_ne (pe_callB (r := rIsi K) (call_isi) (by rfl) T.b_isinstance boot_isinstance (pa_cons (pv 0) (pa_cons (pe_bltn (v := .ty "bool") (by rfl) T.b_bool boot_bool rfl) pa_nil))) (pe_callB (r := rIsi K) (call_isi) (by rfl) T.b_isinstance boot_isinstance (pa_cons (pv 1) (pa_cons (pe_bltn (v := .ty "bool") (by rfl) T.b_bool boot_bool rfl) pa_nil))) (nomark _)) (pss_one (ps_ret pe_bl)) pss_nil)
      (pss_one (ps_ret (pe_and (pe_cmpR op_eq (pe_callB (r := rIsi K) (call_isi) (by rfl) T.b_isinstance boot_isinstance (pa_cons (pv 0) (pa_cons (pe_bltn (v := .ty "int") (by rfl) T.b_int boot_int rfl) pa_nil))) (pe_callB (r := rIsi K) (call_isi) (by rfl) T.b_isinstance boot_isinstance (pa_cons (pv 1) (pa_cons (pe_bltn (v := .ty "int") (by rfl) T.b_int boot_int rfl) pa_nil))) (nomark _)) (pe_one (pe_cmpR op_eq (pv 0) (pv 1) (nomark _)))))))), ?_⟩
        rcases hA with ⟨i, rfl, rfl⟩ | ⟨rfl, rfl⟩ | ⟨st, rfl, rfl⟩
        · have ty : ∀ {G : Hp}, Tyn K G (.int i) "int" := .inl ⟨i, rfl, rfl⟩
          refine q_when (b := false) (et_B (ev_isiT (n := "int") (r1 := false) (r2 := false) (ev_var rfl) ty (by decide +kernel) (by decide +kernel))) (fun hb => nomatch hb) fun _ H1 e1 => ?_
          refine q_when (b := false) (et_test (ev_is (ev_op (ev_isi (n := "int") (m := "bool") (r := false) (ev_var rfl) ty (by decide +kernel)) (ev_isi (n := "int") (m := "bool") (r := false) (ev_var rfl) ty (by decide +kernel)) (rv_ne rfl)) (by simp))) (fun hb => nomatch hb) fun _ H2 e2 => ?_
          exact s_ret (v := .bl true) (ev_andV (a := true) (b := true) (ev_is (ev_op (ev_isi (n := "int") (m := "int") (r := true) (ev_var rfl) ty (by decide +kernel)) (ev_isi (n := "int") (m := "int") (r := true) (ev_var rfl) ty (by decide +kernel)) (rv_eq rfl)) (by simp)) fun _ => ev_is (ev_op (ev_var rfl) (ev_var rfl) (rv_eq rfl)) (by simp)) fun H3 e3 => k H3 ((e1.trans e2).trans e3)
        · have ty : ∀ {G : Hp}, Tyn K G .non "NoneType" := .inr (.inl ⟨rfl, rfl⟩)
          refine q_when (b := false) (et_B (ev_isiT (n := "NoneType") (r1 := false) (r2 := false) (ev_var rfl) ty (by decide +kernel) (by decide +kernel))) (fun hb => nomatch hb) fun _ H1 e1 => ?_
          refine q_when (b := false) (et_test (ev_is (ev_op (ev_isi (n := "NoneType") (m := "bool") (r := false) (ev_var rfl) ty (by decide +kernel)) (ev_isi (n := "NoneType") (m := "bool") (r := false) (ev_var rfl) ty (by decide +kernel)) (rv_ne rfl)) (by simp))) (fun hb => nomatch hb) fun _ H2 e2 => ?_
          exact s_ret (v := .bl true) (ev_andV (a := true) (b := true) (ev_is (ev_op (ev_isi (n := "NoneType") (m := "int") (r := false) (ev_var rfl) ty (by decide +kernel)) (ev_isi (n := "NoneType") (m := "int") (r := false) (ev_var rfl) ty (by decide +kernel)) (rv_eq rfl)) (by simp)) fun _ => ev_is (ev_op (ev_var rfl) (ev_var rfl) (rv_eq rfl)) (by simp)) fun H3 e3 => k H3 ((e1.trans e2).trans e3)
        · have ty : ∀ {G : Hp}, Tyn K G (.str st) "str" := .inr (.inr (.inr (.inr ⟨st, rfl, rfl⟩)))
          refine q_when (b := false) (et_B (ev_isiT (n := "str") (r1 := false) (r2 := false) (ev_var rfl) ty (by decide +kernel) (by decide +kernel))) (fun hb => nomatch hb) fun _ H1 e1 => ?_
          refine q_when (b := false) (et_test (ev_is (ev_op (ev_isi (n := "str") (m := "bool") (r := false) (ev_var rfl) ty (by decide +kernel)) (ev_isi (n := "str") (m := "bool") (r := false) (ev_var rfl) ty (by decide +kernel)) (rv_ne rfl)) (by simp))) (fun hb => nomatch hb) fun _ H2 e2 => ?_
          exact s_ret (v := .bl true) (ev_andV (a := true) (b := true) (ev_is (ev_op (ev_isi (n := "str") (m := "int") (r := false) (ev_var rfl) ty (by decide +kernel)) (ev_isi (n := "str") (m := "int") (r := false) (ev_var rfl) ty (by decide +kernel)) (rv_eq rfl)) (by simp)) fun _ => ev_is (ev_op (ev_var rfl) (ev_var rfl) (rv_eq rfl)) (by simp)) fun H3 e3 => k H3 ((e1.trans e2).trans e3)
      · have hln : ((ys.length : Nat) : Int) = (xs.length : Int) := by omega
        rcases hS with ⟨ha, hb⟩ | ⟨ha, hb⟩
        · have tx : Tyn K H (.ref a) "tuple" := .inr (.inr (.inl ⟨a, xs, rfl, ha, rfl⟩))
          have ty : Tyn K H (.ref b) "tuple" := .inr (.inr (.inl ⟨b, ys, rfl, hb, rfl⟩))
          refine ⟨_, (pss_cons (ps_if (pt_val (pe_callB (r := rIsiT K) (call_isiT) (by rfl) T.b_isinstance boot_isinstance (pa_cons (pv 1) (pa_cons (pe_tup (pa_cons (pe_bltn (v := .ty "tuple") (by rfl) T.b_tuple boot_tuple rfl) (pa_cons (pe_bltn (v := .ty "list") (by rfl) T.b_list boot_list rfl) pa_nil))) pa_nil)))) (pss_cons (ps_if (PW.pt (pw_or (pt_not (pt_val (pe_callB (r := rIsiT K) (call_isiT) (by rfl) T.b_isinstance boot_isinstance (pa_cons (pv 0) (pa_cons (pe_tup (pa_cons (pe_bltn (v := .ty "tuple") (by rfl) T.b_tuple boot_tuple rfl) (pa_cons (pe_bltn (v := .ty "list") (by rfl) T.b_list boot_list rfl) pa_nil))) pa_nil))))) (pw_or1 (pt_cmpR op_ne (pe_callB (r := rIsi K) (call_isi) (by rfl) T.b_isinstance boot_isinstance (pa_cons (pv 0) (pa_cons (pe_bltn (v := .ty "list") (by rfl) T.b_list boot_list rfl) pa_nil))) (pe_callB (r := rIsi K) (call_isi) (by rfl) T.b_isinstance boot_isinstance (pa_cons (pv 1) (pa_cons (pe_bltn (v := .ty "list") (by rfl) T.b_list boot_list rfl) pa_nil))) (nomark _))))) (pss_one (ps_ret pe_bl)) pss_nil)
      (pss_cons (ps_if (pt_cmpR op_ne (pe_callB (r := rLenS K) (call_len_seq) (by rfl) T.b_len boot_len (pa_cons (pv 0) pa_nil)) (pe_callB (r := rLenS K) (call_len_seq) (by rfl) T.b_len boot_len (pa_cons (pv 1) pa_nil)) (nomark _)) (pss_one (ps_ret pe_bl)) pss_nil)
      (pss_one (ps_ret (pe_cmpR (op_eqD hr.units) (pe_lc (own := [("_law_k", 2)]) rfl sc__law_same.nd (pi_range1 (by rfl) T.b_range (pa_cons (pe_callB (r := rLenS K) (call_len_seq) (by rfl) T.b_len boot_len (pa_cons (pv 1) pa_nil)) pa_nil)) (blkOk_by (own := [("_law_k", 2)]) (N := n__law_same) (sc := defScope s__law_same) (scope := { kind := PySem.ScopeKind.function, names := [ (PySem.Str.ofString ".0", PySem.NameKind.local), (PySem.Str.ofString "_law_k", PySem.NameKind.local), (PySem.Str.ofString "_law_same", PySem.NameKind.globalImplicit), (PySem.Str.ofString "_law_expected", PySem.NameKind.free), (PySem.Str.ofString "_law_result", PySem.NameKind.free)], isGenerator := false, isCoroutine := false, more := [] : PySem.Scope }) (by decide +kernel)) (fun _ _ _ _ _ => (pg_name (i := 2) sc__law_same.nd rfl (Or.inl rfl))) (fun _ _ _ _ _ => (pts_one (pt_not (pt_val (pe_call ih hr (by rfl) T.g__law_same T.F__law_same.kp T.b__law_same .nil pass0 (pa_cons (pe_ix (r := rIxT K) ix_tup (pv 0) (pv 2) (fun _ _ => rfl)) (pa_cons (pe_ix (r := rIxT K) ix_tup (pv 1) (pv 2) (fun _ _ => rfl)) pa_nil))))))) (fun _ _ _ _ _ => (pv 2))) (pe_lst pa_nil) (nomark _)))))) pss_nil)
      (pss_cons ps_no
      (pss_one ps_no))), ?_⟩
          refine q_when (b := true) (et_B (ev_isiT (n := "tuple") (r1 := true) (r2 := false) (ev_var rfl) ty (by decide +kernel) (by decide +kernel))) (fun _ H2 e2 => ?_) (fun hb => nomatch hb)
          refine q_when (b := false) (et_or (a := false) (b := false) (et_not (a := true) (et_B (ev_isiT (n := "tuple") (r1 := true) (r2 := false) (ev_var rfl) (tx.mono e2) (by decide +kernel) (by decide +kernel)))) fun _ => et_test (ev_is (ev_op (ev_isi (n := "tuple") (m := "list") (r := false) (ev_var rfl) (tx.mono e2) (by decide +kernel)) (ev_isi (n := "tuple") (m := "list") (r := false) (ev_var rfl) (ty.mono e2) (by decide +kernel)) (rv_ne rfl)) (by simp))) (fun hb => nomatch hb) fun _ H3 e3 => ?_
          have e13 := e2.trans e3
          refine q_when (b := false) (et_test (ev_is (ev_op (ev_lenT (ev_var rfl) (ex_t e13 ha)) (Ev.int_eq (ev_lenT (ev_var rfl) (ex_t e13 hb)) hln) (rv_ne rfl)) (by simp))) (fun hb => nomatch hb) fun _ H4 e4 => ?_
          have e14 := e13.trans e4
          refine s_ret (v := .bl true) (ev_eqNil (xs := given (ys.length : Int).toNat (fun _ => false) (fun i => .int (i : Int))) (el_lcR1 (n := (ys.length : Int)) (fun _ => false) _ (ea_cons (ev_lenT (ev_var rfl) (ex_t e14 hb)) ea_nil) ⟨by omega, by omega⟩ (fun _ => rfl) (fun i G e5 hi => ?_) (fun _ _ _ _ hf => nomatch hf)) (el_lst ea_nil (by show 0 ≤ 100000; decide)) (given_none fun _ _ => rfl)) fun H5 e5 => k H5 (e14.trans e5)
          have hx : (i : Nat) < xs.length := by omega
          have hy : (i : Nat) < ys.length := by omega
          refine et_not (a := true) (et_B (ev_call (vs := [xs[i], ys[i]]) (ea_cons (ev_ixT (ev_var rfl) (ex_t (e14.trans e5) ha) (ev_var rfl) (atI_nat (by simp))) (ea_cons (ev_ixT (ev_var rfl) (ex_t (e14.trans e5) hb) (ev_var rfl) (atI_nat (by simp))) ea_nil)) (spv_same ?_)))
          exact (hA i _ _ (by simp) (by simp)).mono (e14.trans e5)
        · have tx : Tyn K H (.ref a) "list" := .inr (.inr (.inr (.inl ⟨a, xs, rfl, ha, rfl⟩)))
          have ty : Tyn K H (.ref b) "list" := .inr (.inr (.inr (.inl ⟨b, ys, rfl, hb, rfl⟩)))
          refine ⟨_, (pss_cons (ps_if (pt_val (pe_callB (r := rIsiT K) (call_isiT) (by rfl) T.b_isinstance boot_isinstance (pa_cons (pv 1) (pa_cons (pe_tup (pa_cons (pe_bltn (v := .ty "tuple") (by rfl) T.b_tuple boot_tuple rfl) (pa_cons (pe_bltn (v := .ty "list") (by rfl) T.b_list boot_list rfl) pa_nil))) pa_nil)))) (pss_cons (ps_if (PW.pt (pw_or (pt_not (pt_val (pe_callB (r := rIsiT K) (call_isiT) (by rfl) T.b_isinstance boot_isinstance (pa_cons (pv 0) (pa_cons (pe_tup (pa_cons (pe_bltn (v := .ty "tuple") (by rfl) T.b_tuple boot_tuple rfl) (pa_cons (pe_bltn (v := .ty "list") (by rfl) T.b_list boot_list rfl) pa_nil))) pa_nil))))) (pw_or1 (pt_cmpR op_ne (pe_callB (r := rIsi K) (call_isi) (by rfl) T.b_isinstance boot_isinstance (pa_cons (pv 0) (pa_cons (pe_bltn (v := .ty "list") (by rfl) T.b_list boot_list rfl) pa_nil))) (pe_callB (r := rIsi K) (call_isi) (by rfl) T.b_isinstance boot_isinstance (pa_cons (pv 1) (pa_cons (pe_bltn (v := .ty "list") (by rfl) T.b_list boot_list rfl) pa_nil))) (nomark _))))) (pss_one (ps_ret pe_bl)) pss_nil)
      (pss_cons (ps_if (pt_cmpR op_ne (pe_callB (r := rLenS K) (call_len_seq) (by rfl) T.b_len boot_len (pa_cons (pv 0) pa_nil)) (pe_callB (r := rLenS K) (call_len_seq) (by rfl) T.b_len boot_len (pa_cons (pv 1) pa_nil)) (nomark _)) (pss_one (ps_ret pe_bl)) pss_nil)
      (pss_one (ps_ret (pe_cmpR (op_eqD hr.units) (pe_lc (own := [("_law_k", 2)]) rfl sc__law_same.nd (pi_range1 (by rfl) T.b_range (pa_cons (pe_callB (r := rLenS K) (call_len_seq) (by rfl) T.b_len boot_len (pa_cons (pv 1) pa_nil)) pa_nil)) (blkOk_by (own := [("_law_k", 2)]) (N := n__law_same) (sc := defScope s__law_same) (scope := { kind := PySem.ScopeKind.function, names := [ (PySem.Str.ofString ".0", PySem.NameKind.local), (PySem.Str.ofString "_law_k", PySem.NameKind.local), (PySem.Str.ofString "_law_same", PySem.NameKind.globalImplicit), (PySem.Str.ofString "_law_expected", PySem.NameKind.free), (PySem.Str.ofString "_law_result", PySem.NameKind.free)], isGenerator := false, isCoroutine := false, more := [] : PySem.Scope }) (by decide +kernel)) (fun _ _ _ _ _ => (pg_name (i := 2) sc__law_same.nd rfl (Or.inl rfl))) (fun _ _ _ _ _ => (pts_one (pt_not (pt_val (pe_call ih hr (by rfl) T.g__law_same T.F__law_same.kp T.b__law_same .nil pass0 (pa_cons (pe_ix (r := rIxL K) ix_list (pv 0) (pv 2) (fun _ _ => rfl)) (pa_cons (pe_ix (r := rIxL K) ix_list (pv 1) (pv 2) (fun _ _ => rfl)) pa_nil))))))) (fun _ _ _ _ _ => (pv 2))) (pe_lst pa_nil) (nomark _)))))) pss_nil)
      (pss_cons ps_no
      (pss_one ps_no))), ?_⟩
          refine q_when (b := true) (et_B (ev_isiT (n := "list") (r1 := false) (r2 := true) (ev_var rfl) ty (by decide +kernel) (by decide +kernel))) (fun _ H2 e2 => ?_) (fun hb => nomatch hb)
          refine q_when (b := false) (et_or (a := false) (b := false) (et_not (a := true) (et_B (ev_isiT (n := "list") (r1 := false) (r2 := true) (ev_var rfl) (tx.mono e2) (by decide +kernel) (by decide +kernel)))) fun _ => et_test (ev_is (ev_op (ev_isi (n := "list") (m := "list") (r := true) (ev_var rfl) (tx.mono e2) (by decide +kernel)) (ev_isi (n := "list") (m := "list") (r := true) (ev_var rfl) (ty.mono e2) (by decide +kernel)) (rv_ne rfl)) (by simp))) (fun hb => nomatch hb) fun _ H3 e3 => ?_
          have e13 := e2.trans e3
          refine q_when (b := false) (et_test (ev_is (ev_op (ev_len (ev_var rfl) (ex_l e13 ha)) (Ev.int_eq (ev_len (ev_var rfl) (ex_l e13 hb)) hln) (rv_ne rfl)) (by simp))) (fun hb => nomatch hb) fun _ H4 e4 => ?_
          have e14 := e13.trans e4
          refine s_ret (v := .bl true) (ev_eqNil (xs := given (ys.length : Int).toNat (fun _ => false) (fun i => .int (i : Int))) (el_lcR1 (n := (ys.length : Int)) (fun _ => false) _ (ea_cons (ev_len (ev_var rfl) (ex_l e14 hb)) ea_nil) ⟨by omega, by omega⟩ (fun _ => rfl) (fun i G e5 hi => ?_) (fun _ _ _ _ hf => nomatch hf)) (el_lst ea_nil (by show 0 ≤ 100000; decide)) (given_none fun _ _ => rfl)) fun H5 e5 => k H5 (e14.trans e5)
          have hx : (i : Nat) < xs.length := by omega
          have hy : (i : Nat) < ys.length := by omega
          refine et_not (a := true) (et_B (ev_call (vs := [xs[i], ys[i]]) (ea_cons (ev_ixL (ev_var rfl) (ex_l (e14.trans e5) ha) (ev_var rfl) (atI_nat (by simp))) (ea_cons (ev_ixL (ev_var rfl) (ex_l (e14.trans e5) hb) (ev_var rfl) (atI_nat (by simp))) ea_nil)) (spv_same ?_)))
          exact (hA i _ _ (by simp) (by simp)).mono (e14.trans e5)

section
variable {K : PySem.W.Frag} {σ : L2.St} {H : Hp} {to ty te : TE} {p a C dd : Addr} {ys : List V} {y v : V} {n : Str} {fs : List (Str × V)}
theorem ev_xf (he : Ev te σ H (.ref a)) (hx : H dd = some (.xd fs)) (hl : fs.lookup n = some v) : Ev (tXf a (.ref C) (some dd) C n te) σ H v := fun H1 e Q q => he H1 e _ fun H2 e2 => ⟨rfl, rfl, dd, fs, v, rfl, e2 _ _ (e _ _ hx), hl, q H2 e2⟩
end
section
variable {K : PySem.W.Frag} {J : It} {n : Nat} {G : Hp → Prop} {Y : Nat → Hp → V → Hp → Prop}
theorem lcF_it (w : Walk J n G Y) {g : TG} {te : TE} {vs : List Nat} {σ : L2.St} {H1 : Hp} {D : Addr} {Qd : Hp → Prop} (Pv : Nat → Hp → Prop) (h0 : Pv 0 (upd H1 D (.lst []))) (hG : ∀ i H, i ≤ n → Pv i H → G H)
    (hs : ∀ i x H H', i < n → Pv i H → Y i H x H' → g x (wipe σ vs) H' fun σ2 H2 => wipe σ2 vs = wipe σ vs ∧ te σ2 H2 fun y H4 => ∃ acc, H4 D = some (.lst acc) ∧ acc.length < sizeLine ∧ Pv (i + 1) (upd H4 D (.lst (acc ++ [y])))) (hd : ∀ H, Pv n H → Qd H) :
    ∃ W : Nat → Nat → Hp → Prop, (∃ m, W 0 m (upd H1 D (.lst []))) ∧ ∀ i m H, W i m H →
      (J.stop i H ∧ Qd H) ∨ (J.go i H ∧ ∃ Nx : Hp → Prop, (∀ H', Nx H' → ∃ m', m' < m ∧ W (i + 1) m' H') ∧ ∀ x H', J.yld i H x H' → g x (wipe σ vs) H' fun σ2 H2 => wipe σ2 vs = wipe σ vs ∧
        te σ2 H2 fun y H4 => ∃ acc, H4 D = some (.lst acc) ∧ acc.length < sizeLine ∧ Nx (upd H4 D (.lst (acc ++ [y])))) := by
  refine ⟨fun i m H => m = n - i ∧ i ≤ n ∧ Pv i H, ⟨n, by simp, Nat.zero_le _, h0⟩, ?_⟩
  rintro i m H ⟨rfl, hi, p⟩
  have q := hG i H hi p
  by_cases hlt : i < n
  · exact .inr ⟨w.goes i H hlt q, Pv (i + 1), fun H' p' => ⟨n - (i + 1), by omega, rfl, hlt, p'⟩, fun x H' y => hs i x H H' hlt p (w.yields i H x H' hlt q y)⟩
  · have e : i = n := by omega
    subst e
    exact .inl ⟨w.stops H q, hd H p⟩
theorem mix_over {Cl : Addr → Prop} {H H3 : Hp} (e : Ex (wn H Cl) H3) : Ex H (mixN Cl H H3) := fun b o q => by
  by_cases n : Cl b
  · rw [mix_in n]; exact q
  · rw [mix_ni n]; exact e b o ((wn_ni n).trans q)
theorem cl_none {X : Cx} {σ : L2.St} {H Hz : Hp} {N : Addr → Prop} {scope : Scope} (z : Frz X σ H Hz N) (hfree : ∀ y ∈ scope.names, y.2 = .free → X.env.scope.names.lookup y.1 = some .cell ∨ X.env.scope.names.lookup y.1 = some .free) : ∀ y c, (cloFrom X.env.cells scope.names []).lookup y = some c → H c = none := fun y c e =>
  z.off c ((z.iff c).mpr ⟨y, clo_cm (fun y hy e => z.has y.1 (hfree y hy e)) e⟩)
end
def NumR (Z : Ad) (Q : VK) : XK := fun cls d H1 => cls = .ref Z.c_InvalidNumber ∧ d = none ∧ ∀ p H2, H1 p = none → Ex H1 H2 → H2 p = some (.tup [.str "InvalidNumber"]) → Q (.ref p) H2
def RepR (Z : Ad) (Q : VK) : XK := fun cls d H1 => ∃ dd i, cls = .ref Z.c_InvalidReport ∧ d = some dd ∧ H1 dd = some (.xd [("row", .int i)]) ∧ ∀ p H2, H1 p = none → Ex H1 H2 → H2 p = some (.tup [.str "InvalidReport", .int i]) → Q (.ref p) H2
def sp_out (P : Program) (w : World) (K : PySem.W.Frag) (mg : Str → Option Value) (base : Heap) (Z : Ad) : Sp := fun vs H Q _ => ∃ (f : Addr) (sp : Sp) (S : Hp), vs = [.ref f] ∧ Cal P w K mg base (L2.CX P w) 9 f sp S ∧ Ex S H ∧
  ∀ (Q1 : VK) (E1 : XK), (∀ v H1, Q v H1 → Q1 v H1) → (∀ cls d H1, NumR Z Q cls d H1 ∨ RepR Z Q cls d H1 → E1 cls d H1) → sp [] H Q1 E1
theorem ok__law_outcome (T : Txt K mg Z) : FnOk P w K mg base CX0 10 Z.f__law_outcome Z.d__law_outcome p__law_outcome (sp_out P w K mg base Z) := by
  refine T.F__law_outcome.ok sc__law_outcome (fun vs H Q E h => ?_) (fun cdv Ar outer s H vs Q E hr h => ?_)
  · obtain ⟨f, sp, S, rfl, _⟩ := h
    rfl
  · obtain ⟨f, sp, S, rfl, C, eS, q⟩ := h
    refine ⟨_, (pss_one (ps_try2 (i := 1) rfl rfl sc__law_outcome.nd rfl rfl ⟨rfl, by decide, Or.inl T.g_InvalidNumber⟩ ⟨rfl, by decide, Or.inl T.g_InvalidReport⟩ (by exact (fun W pn xe tk _ => (pss_one (ps_ret (pe_calS (CX := L2.CX P w) (i := 0) (k := 9) P w K mg base rfl rfl rfl rfl rfl hr (by decide) (fun σ => passAt tk σ) rfl (by first | exact Or.inl rfl | exact Or.inr (Or.inl rfl) | exact Or.inr (Or.inr rfl))))))) (by exact (fun a oe cls d pn hz hf => (pss_one (by exact (ps_ret (pe_tup (pa_cons pe_str pa_nil))))))) (by exact (fun a oe cls d pn hz hf => (pss_one (by exact (ps_ret (pe_tup (pa_cons pe_str (pa_cons (pe_xf T.xI_InvalidReport.xf T.na_InvalidReport_row hz hf (pv 1)) pa_nil)))))))))), ?_⟩
    refine ⟨f, sp, S, rfl, C, eS, q _ _ ?_ ?_⟩
    · intro v H1 h
      exact h
    rintro cls d H1 (⟨rfl, rfl, h⟩ | ⟨dd, i, rfl, rfl, hx, h⟩)
    · refine ⟨true, T.xn_InvalidNumber_InvalidNumber, fun _ a na => ?_, fun z => nomatch z⟩
      exact s_retU (xs := [.str "InvalidNumber"]) (eu_tup (ea_cons ev_c ea_nil) (by show 1 ≤ 100000; decide)) fun p H2 hp e2 h2 => h p H2 hp e2 h2
    · refine ⟨false, T.xn_InvalidReport_InvalidNumber, (fun z => nomatch z), fun _ => ⟨T.xn_InvalidReport_InvalidReport, fun a na => ?_⟩⟩
      exact s_retU (xs := [.str "InvalidReport", .int i]) (eu_tup (ea_cons ev_c (ea_cons (ev_xf (ev_var rfl) hx rfl) ea_nil)) (by show 2 ≤ 100000; decide)) fun p H2 hp e2 h2 => h p H2 hp e2 h2
/-- what a call that is out of range does -/
def sp_rN (Z : Ad) : Sp := fun vs H _ E => vs = [] ∧ ∀ H', Ex H H' → E (.ref Z.c_InvalidNumber) none H'
theorem rN_mix {H : Hp} {E : XK} {Cl : Addr → Prop} (r : ∀ H', Ex H H' → E (.ref Z.c_InvalidNumber) none H') : ∀ H3, Ex (wn H Cl) H3 → (fun c d H3 => (∀ b, Cl b → H3 b = none) → E c d (mixN Cl H H3)) (.ref Z.c_InvalidNumber) none H3 := fun H3 e _ => r _ (mix_over e)
abbrev dIN : PyData := .tuple [.str "InvalidNumber"]
theorem s_outs {X : Cx} {σ : L2.St} {H : Hp} {tw : TE} {q f1 f2 f3 : Addr} {E : XK} {j : Nat} {tu : TS} {D : Ends} (hw : Ev tw σ H (.ref q)) (hq : SqL K H q [.ref f1, .ref f2, .ref f3]) (hwp : ∀ x, wipe ((wipe σ [j]).set j (some x)) [j] = wipe σ [j]) (hsl : ∀ x, ((wipe σ [j]).set j (some x))[j]? = some (some x))
    (hc : ∀ H1, Ex H H1 → ∀ Hz N, Frz X σ H1 Hz N → ∀ f, f = f1 ∨ f = f2 ∨ f = f3 → Cal P w K mg base (L2.CX P w) 9 f (sp_rN Z) Hz) (fin : ∀ H', Ex H H' → D.nx σ H') :
    tIfS (tTest (tOp (rNeD K) (tLcF X (iList K tw) (gName j) (tCall (sp_out P w K mg base Z) [] E (tCons (tVar j) tNil)) [j]) (tOp rRep (tLst (tCons (tTup (tCons (tC (.str "InvalidNumber")) tNil)) tNil)) (tC (.int 3))))) tu tNext D σ H := by
  refine hw H (Ex.refl _) _ fun H1 e1 => ⟨q, rfl, ⟨_, ex_l e1 hq⟩, ?_⟩
  intro Hz N fz Dl hD
  have fz0 : Ex H1 Hz := fz.ex_
  have nD : ¬ N Dl := fun z => by obtain ⟨o, v, e, _⟩ := fz.inn _ z; rw [hD] at e; cases e
  refine lcF_it (walk_list (K := K) (a := q) (xs := [.ref f1, .ref f2, .ref f3])) (fun i H' => ∃ ts : List Addr, ts.length = i ∧ Ex Hz H' ∧ H' Dl = some (.lst (ts.map V.ref)) ∧ ∀ t ∈ ts, H' t = some (.tup [.str "InvalidNumber"]))
    ⟨[], rfl, Ex.new hD, upd_same, by simp⟩ (fun i H' _ p => ex_l (fz0.trans p.choose_spec.2.1) (ex_l e1 hq)) ?_ ?_
  · rintro i x H2 H2' hi ⟨ts, hl, eZ, hL, ht⟩ ⟨ey, hx⟩
    rw [ey]
    have hx3 : ∃ f, x = .ref f ∧ (f = f1 ∨ f = f2 ∨ f = f3) := by
      match i, hx with
      | 0, hx => cases hx; exact ⟨_, rfl, .inl rfl⟩
      | 1, hx => cases hx; exact ⟨_, rfl, .inr (.inl rfl)⟩
      | 2, hx => cases hx; exact ⟨_, rfl, .inr (.inr rfl)⟩
    obtain ⟨f, rfl, hf⟩ := hx3
    refine ⟨hwp _, ?_⟩
    refine (ev_var (i := j) (hsl _)) H2 (Ex.refl _) _ fun H3 e3 => ?_
    refine ⟨f, sp_rN Z, Hz, rfl, ?_, eZ.trans e3, fun Q1 E1 q1 e1' => ⟨rfl, fun H' ex => e1' _ _ _ (.inl ⟨rfl, rfl, fun p H4 np ex2 h4 => ?_⟩)⟩⟩
    · exact hc H1 e1 Hz N fz f hf
    · have e24 := (e3.trans ex).trans ex2
      have h5 := e24 _ _ hL
      have npD : p ≠ Dl := fun z => by rw [z, (e3.trans ex) _ _ hL] at np; cases np
      refine ⟨ts.map V.ref, h5, sz_lt (by rw [List.length_map, hl]; have : i < 3 := hi; omega), ts ++ [p], by rw [List.length_append, hl]; rfl, fun b o z => ?_, by rw [upd_same, List.map_append]; rfl, fun t htm => ?_⟩
      · rw [upd_ne (fun y => by rw [y, hD] at z; cases z)]; exact e24 _ _ (eZ _ _ z)
      · rcases List.mem_append.mp htm with z | z
        · have a := ht t z
          have ne : t ≠ Dl := fun y => by rw [y, hL] at a; cases a
          rw [upd_ne ne]; exact e24 _ _ a
        · rw [List.mem_singleton.mp z, upd_ne npD]; exact h4
  · rintro H2 ⟨ts, hl, eZ, hL, ht⟩
    have hl3 : ts.length = 3 := hl
    match ts, hl3, hL, ht with
    | [t1, t2, t3], _, hL, ht =>
      have go : ∀ {b : Addr} {o : HO}, H2 b = some o → (∀ u, o ≠ .frz u okT) → wn H2 N b = some o := fun {b o} e n => (wn_ni fun z => by
        obtain ⟨u, v, e', _⟩ := fz.inn _ z
        have := eZ _ _ e'
        rw [e] at this; exact n u (Option.some.inj this)).trans e
      have eH : Ex H (wn H2 N) := fun b o e => by
        have e' := e1 _ _ e
        rw [wn_ni fun z => by rw [fz.off b z] at e'; cases e']
        exact eZ _ _ (fz0 _ _ e')
      have k0 := go hL fun _ z => nomatch z
      have k1 := go (ht t1 (by simp)) fun _ z => nomatch z
      have k2 := go (ht t2 (by simp)) fun _ z => nomatch z
      have k3 := go (ht t3 (by simp)) fun _ z => nomatch z
      generalize wn H2 N = G at eH k0 k1 k2 k3
      dsimp only [tOp, tLst, tCons, tNil]
      refine (eu_tup (H := G) (σ := σ) (xs := [.str "InvalidNumber"]) (ea_cons ev_c ea_nil) (by show 1 ≤ 100000; decide)) G (Ex.refl _) _ fun p H3 np e3 h3 => ⟨sz_of (by show 1 ≤ 100000; decide), fun r hr => ?_⟩
      refine ⟨r, 3, [.ref p], rfl, rfl, upd_same, by decide, by decide, by show 1 * 3 ≤ sizeLine; decide, fun u hu => ?_⟩
      have e5 : Ex G (upd (upd H3 r (.lst [.ref p])) u (.lst (List.replicate (Int.toNat 3) [V.ref p]).flatten)) := (e3.trans (Ex.new hr)).trans (Ex.new hu)
      have hp5 : (upd (upd H3 r (.lst [.ref p])) u (.lst (List.replicate (Int.toNat 3) [V.ref p]).flatten)) p = some (.tup [.str "InvalidNumber"]) := (Ex.new (o := .lst (List.replicate (Int.toNat 3) [V.ref p]).flatten) hu) _ _ ((Ex.new (o := .lst [.ref p]) hr) _ _ h3)
      have hu5 : (upd (upd H3 r (.lst [.ref p])) u (.lst (List.replicate (Int.toNat 3) [V.ref p]).flatten)) u = some (.lst [.ref p, .ref p, .ref p]) := upd_same
      generalize upd (upd H3 r (.lst [.ref p])) u (.lst (List.replicate (Int.toNat 3) [V.ref p]).flatten) = G5 at e5 hp5 hu5
      have one : ∀ {t : Addr}, G5 t = some (.tup [.str "InvalidNumber"]) → Dp K G5 (.ref t) dIN := fun e => .tup (st_of e) (.cons (.str _) .nil)
      refine ⟨.list [dIN, dIN, dIN], .list [dIN, dIN, dIN], .lst (sq_of (e5 _ _ k0)) (.cons (one (e5 _ _ k1)) (.cons (one (e5 _ _ k2)) (.cons (one (e5 _ _ k3)) .nil))), .lst (sq_of hu5) (.cons (one hp5) (.cons (one hp5) (.cons (one hp5) .nil))), by decide +kernel, by decide +kernel, false, by decide +kernel, ?_⟩
      exact fin _ (eH.trans e5)
end Sw
namespace Sw
open PySem PySem.Spec PyProof.Rows L2 Evl LamX NdefX SX
local macro_rules | `(tactic| walk_at "ev") => `(tactic| first
  | exact ev_c
  | exact ev_var rfl
  | ((with_reducible show Ev (tCB rMax2 _) _ _ _); exact ev_maxi (by walk_at "ev") (by walk_at "ev"))
  | ((with_reducible show Ev (tCB rMn _) _ _ _); exact ev_min2 (by walk_at "ev") (by walk_at "ev"))
  | ((with_reducible show Ev (tUn _ _) _ _ _); exact ev_un (by walk_at "ev") ru_neg)
  | ((with_reducible show Ev (tFld _ _ _) _ _ _); exact ev_fldK (by walk_at "ev") (by assumption))
  | ((with_reducible show Ev (tOp (rI0 _) _ _) _ _ _); exact ev_op (by walk_at "ev") (by walk_at "ev") rv_I0)
  | ((with_reducible show Ev (tOp rEq _ _) _ _ _); exact ev_op (by walk_at "ev") (by walk_at "ev") (rv_eq rfl))
  | ((with_reducible show Ev (tOp rNe _ _) _ _ _); exact ev_op (by walk_at "ev") (by walk_at "ev") (rv_ne rfl)))

/-! ### the law's statements -/
noncomputable def Fx (h l : Addr) (G : Hp) : Hp := nt (wn G (hl h l))
theorem nt_mono {H H' : Hp} (e : Ex H H') : Ex (nt H) (nt H') := fun b o q => nt_of (e b o (nt_some q).1) (nt_some q).2
section
variable {K : PySem.W.Frag} {Z : Ad} {h l : Addr} {G G' H H' : Hp} {p : Addr} {ns : List Int} {N : Addr → Prop} {v : V}
theorem fx_dr (d : Dr h l G G') : Ex (Fx h l G) (Fx h l G') := nt_mono d.ex
theorem fx_ext (e : ExtN G G') : Ex (Fx h l G) (Fx h l G') := extN_nt (extN_wn e)
theorem fx_ex (e : Ex G G') : Ex (Fx h l G) (Fx h l G') := nt_mono (wn_mono e)
theorem fx_in : Ex (Fx h l G) G := nt_ex.trans wn_ex
theorem fx_wn : Ex (Fx h l G) (wn G (hl h l)) := nt_ex
theorem hs_ext (e : ExtN G G') (q : HS G h l) : HS G' h l := let ⟨p, m, r, h1, z⟩ := q; ⟨p, m, r, e _ _ h1 (fun _ z => nomatch z), z⟩
theorem tabs_dr {T : List NTab} (hs : HS H h l) (d : Dr h l H H') (t : TabsN T H) : TabsN T H' := by
  have t1 : TabsN T (wn H (hl h l)) := fun p hp => by
    obtain ⟨ps, h1, h2, h3⟩ := t p hp
    refine ⟨ps, (wn_ni (hl_kind hs h1 fun _ z => nomatch z)).trans h1, h2, fun pos cv hc => ?_⟩
    obtain ⟨c, e1, e2⟩ := h3 pos cv hc
    exact ⟨c, e1, (wn_ni (hl_kind hs e2 fun _ z => by unfold CodeO at z; cases z)).trans e2⟩
  exact (t1.ext d.ex).ext wn_ex
theorem fx_lst {xs : List V} (hp : wn G (hl h l) p = some (.lst xs)) : SqL K (Fx h l G) p xs := sq_of (nt_of hp fun _ z => nomatch z)
end
section
variable {K : PySem.W.Frag} {Z : Ad} {H H1 H' Hz : Hp} {a c C : Addr} {f m : Str} {v : V} {bs ds ks : List Int} {tb td tk : Addr} {gain first full : Int} {fm lm : List Int} {b h l : Addr} {life : Int} {i : Nat}
theorem flk_nt (x : FlK K H a C f v) : FlK K (nt H) a C f v := ⟨let ⟨dx, fs, e, q⟩ := x.fl; ⟨dx, fs, nt_of e (fun _ z => nomatch z), q⟩, x.cl, x.na⟩
theorem nof_nt (x : NoF H a C m) : NoF (nt H) a C m := let ⟨dx, fs, e, q⟩ := x; ⟨dx, fs, nt_of e (fun _ z => nomatch z), q⟩
theorem pr_nt (x : PR K Z H c bs ds ks tb td tk) : PR K Z (nt H) c bs ds ks tb td tk := ⟨flk_nt x.fb, nt_t x.hb, flk_nt x.fd, nt_t x.hd, flk_nt x.fk, nt_l x.hk, nof_nt x.nf, x.gd, x.kl⟩
theorem sr_nt (x : SR K Z H c bs ds ks tb td tk gain first full) : SR K Z (nt H) c bs ds ks tb td tk gain first full := ⟨pr_nt x.pr, flk_nt x.fg, flk_nt x.ff, flk_nt x.fu, nof_nt x.nf, x.gb⟩
theorem co_nt (x : CO K Z H c bs ds ks gain first full fm lm) : CO K Z (nt H) c bs ds ks gain first full fm lm :=
  ⟨let ⟨a, b, c, y⟩ := x.sr; ⟨a, b, c, sr_nt y⟩, let ⟨a, y, z⟩ := x.ffm; ⟨a, flk_nt y, nt_l z⟩, let ⟨a, y, z⟩ := x.flm; ⟨a, flk_nt y, nt_l z⟩, x.lfm, x.llm, x.slm, x.sb, x.sd, fun m hm => nof_nt (x.nf m hm)⟩
theorem bak_nt (x : BakAt K Z H b bs ds life i) : BakAt K Z (nt H) b bs ds life i :=
  ⟨let ⟨a, y, z⟩ := x.fb; ⟨a, flk_nt y, nt_t z⟩, let ⟨a, y, z⟩ := x.fd; ⟨a, flk_nt y, nt_t z⟩, flk_nt x.fl, let ⟨a, y, z⟩ := x.fc; ⟨a, flk_nt y, co_nt z⟩, flk_nt x.fs, let ⟨a, y, z⟩ := x.fr; ⟨a, flk_nt y, nt_t z⟩, x.gd, x.l0, x.l1, x.hi, fun m hm => nof_nt (x.nf m hm)⟩
theorem bak_ext (e : ExtN H H1) (x : BakAt K Z H b bs ds life i) : BakAt K Z H1 b bs ds life i := (bak_nt x).mono ((extN_nt e).trans nt_ex)
end
section
variable {K : PySem.W.Frag} {Z : Ad} {σ : L2.St} {H H' : Hp} {ta tb tc te : TE} {v : V} {h l p pb : Addr} {ns bs ds : List Int} {life : Int} {A B : Int → Prop} {D : Ends} {tz tu : TS}
/-- a bakery whose life is drawn, prices that are drawn -/
theorem q_bakD {t1 t2 : TE} {pb pd : Addr} {E : XK} {i1 : Nat} (hs : HS H h l) (h1 : ∀ G, Ev t1 σ G (.ref pb)) (h2 : ∀ G, Ev t2 σ G (.ref pd)) (hx : EvI te σ H h l A) (hb : SqT K (wn H (hl h l)) pb (bs.map V.int)) (hd : SqT K (wn H (hl h l)) pd (ds.map V.int)) (gd : Good bs ds) (hA : ∀ i, A i → 1 ≤ i ∧ i ≤ 30)
    (k : ∀ (b : Addr) (i : Nat) (life : Int) (S : Hp), Dr h l H S → BakAt K Z (wn S (hl h l)) b bs ds life i → A life → tz D (σ.set i1 (some (.ref b))) S) : tSeq (tAsg (tMake Z.c_Bakery (sp_Binit K Z) [] E (tCons t1 (tCons t2 (tCons te tNil)))) (gName i1)) tz D σ H := by
  dsimp only [tSeq, tAsg, gName, tMake, tCons, tNil]
  refine h1 H H (Ex.refl _) _ fun H1 e1 => h2 H1 H1 (Ex.refl _) _ fun H2 e2 => hx H2 (Dr.of hs (e1.trans e2)) _ fun v H3 d3 ⟨life, e, hi⟩ => ?_
  subst e
  have d13 := (Dr.of hs (e1.trans e2)).trans d3
  have hX := er_bakery (K := K) (Z := Z) (M := hl h l) (H := H3) (σ := [some (.ref pb), some (.ref pd), some (.int life)]) (E := E) (t := tCons (tVar 0) (tCons (tVar 1) (tCons (tVar 2) tNil))) (ea_cons (ev_var rfl) (ea_cons (ev_var rfl) (ea_cons (ev_var rfl) ea_nil))) (ex_t d13.ex hb) (ex_t d13.ex hd) gd (hA life hi).1 (hA life hi).2
  have z := hX H3 (Ex.refl _) d13.hs.kn (fun v S => tz D (σ.set i1 (some v)) S) fun p S _ e4 ⟨i, hP⟩ => k p i life S (d13.trans (Dr.of d13.hs e4)) hP hi
  dsimp only [tMake, tCons, tNil] at z
  obtain ⟨v1, r1, v2, r2, v3, r3, z⟩ := z
  cases r1; cases r2; cases r3
  exact z
theorem ev_bk {t : Nat} {tm : TE} {size : Int} (ha : Ev ta σ H (.ref pb)) (hb : SqT K H pb (bs.map V.int)) (hs : (bs.length : Int) = size) (h0 : 0 < size) (h1 : Ev tm σ H (.int ((t : Int) % size))) : Ev (tOp (rIxT K) ta tm) σ H (.int (bk bs t)) := by
  have e : bk bs t = bs.getD ((t : Int) % size).toNat 0 := by
    unfold bk
    rw [← hs, (day_split t bs.length (by omega)).2]
  rw [e]
  exact ev_ixT ha hb h1 (atI_mapI (Int.emod_nonneg _ (by omega)) (by rw [hs]; exact Int.emod_lt_of_pos _ h0))
theorem sql_fx {h l : Addr} {H H1 : Hp} {xs : List V} (hh : H h = none) (hS : SqL K H l xs) (e : Ex H H1) : SqL K (Fx h l H1) l xs := by
  have go : ∀ {o : HO}, H l = some o → (∀ ps, o ≠ .tbl ps) → Fx h l H1 l = some o := fun {o} q n => by
    have ne : ¬ hl h l l := fun z => by rw [show l = h from z, hh] at q; cases q
    exact nt_of ((wn_ni ne).trans (e _ _ q)) n
  rcases hS with (q | ⟨u, q⟩) | q
  · exact .inl (.inl (go q fun _ z => nomatch z))
  · exact .inl (.inr ⟨u, go q fun _ z => nomatch z⟩)
  · exact .inr q
def LamS (mk : Addr → LF) (f : Addr) (H : Hp) : Prop := ∃ c, H f = some (LamO f (mk c)) ∧ H c = some (CodeO c (mk c).qual)
def LamT (mk : Addr → Addr → LF) (i : Int) (f : Addr) (H : Hp) : Prop := ∃ c t, H f = some (LamO f (mk c t)) ∧ H c = some (CodeO c (mk c t).qual) ∧ H t = some (.tup [.int i])
theorem codeO_tbl {c : Addr} {q : Str} (ps : Array Value) : CodeO c q ≠ .tbl ps := fun z => by unfold CodeO at z; cases z
theorem LamS.ext {mk : Addr → LF} {f : Addr} {G G' : Hp} (e : ExtN G G') (x : LamS mk f G) : LamS mk f G' := let ⟨c, a, b⟩ := x; ⟨c, e _ _ a lamO_tbl, e _ _ b codeO_tbl⟩
theorem LamT.ext {mk : Addr → Addr → LF} {i : Int} {f : Addr} {G G' : Hp} (e : ExtN G G') (x : LamT mk i f G) : LamT mk i f G' := let ⟨c, t, a, b, d⟩ := x; ⟨c, t, e _ _ a lamO_tbl, e _ _ b codeO_tbl, e _ _ d fun _ z => nomatch z⟩
theorem ExtN.tr {G G' G'' : Hp} (a : ExtN G G') (b : ExtN G' G'') : ExtN G G'' := fun x o e n => b _ _ (a _ _ e n) n
theorem q_works3 {m : Nat} {T : List NTab} {mk1 : Addr → LF} {mk2 mk3 : Addr → Addr → LF} {i i' : Int} (hT : TabsN T H) (k : ∀ f1 f2 f3 p H', ExtN H H' → TabsN T H' → LamS mk1 f1 H' → LamT mk2 i f2 H' → LamT mk3 i' f3 H' → H' p = some (.lst [.ref f1, .ref f2, .ref f3]) → tz D (σ.set m (some (.ref p))) H') :
    tSeq (tAsg (tLst (tCons (tLamE T mk1) (tCons (tLamD T mk2 i) (tCons (tLamD T mk3 i') tNil)))) (gName m)) tz D σ H :=
  ⟨hT, fun f1 c1 H1 e1 _ T1 _ a1 b1 => ⟨T1, fun f2 c2 t2 H2 e2 _ T2 _ a2 b2 d2 => ⟨T2, fun f3 c3 t3 H3 e3 _ T3 _ a3 b3 d3 => ⟨by show 3 ≤ sizeLine; decide, fun p hp => by
    have e4 : Ex H3 (L2.upd H3 p (.lst [.ref f1, .ref f2, .ref f3])) := Ex.new hp
    have e34 := ExtN.tr e3 (extN_of e4)
    have e24 := ExtN.tr e2 e34
    exact k f1 f2 f3 p _ (ExtN.tr e1 e24) (T3.ext e4) (LamS.ext e24 ⟨c1, a1, b1⟩) (LamT.ext e34 ⟨c2, t2, a2, b2, d2⟩) (LamT.ext (extN_of e4) ⟨c3, t3, a3, b3, d3⟩) upd_same⟩⟩⟩⟩
theorem spv_Bday {b : Addr} {i t j : Nat} (hB : BakAt K Z H b bs ds life i) (ht : (t : Int) ≤ 1000000000000000000) : SpV (sp_Bday K Z j) [.ref b, .int (t : Int)] H (.int ([solS bs ds (keepL bs life) t, misS bs ds (keepL bs life) t, thrS bs ds (keepL bs life) t].getD j 0)) := fun _ e _ q _ => ⟨b, bs, ds, life, i, t, rfl, ht, hB.mono e, q⟩
/-- for i in range(n), n drawn -/
theorem x_forR1 {j : Nat} (hs : HS H h l) (hx : EvI te σ H h l A) (hA : ∀ i, A i → 0 ≤ i ∧ i ≤ 1000) (Pv : Nat → L2.St → Hp → Prop) (h0 : ∀ H1, Dr h l H H1 → Pv 0 σ H1)
    (hb : ∀ (n i : Nat) σ' H', A (n : Int) → i < n → Pv i σ' H' → tu { D with nx := Pv (i + 1), ct := Pv (i + 1), bk := tz D } (σ'.set j (some (.int (i : Int)))) H') (hd : ∀ (n : Nat) σ' H', A (n : Int) → Pv n σ' H' → tz D σ' H') : tSeq (tFor (iRng1 (tCons te tNil)) (gName j) tu) tz D σ H :=
  hx H (Dr.refl hs) _ fun v H1 d1 ⟨m, e, hm⟩ => by
    subst e
    have b := hA m hm
    have em : m = ((m.toNat : Nat) : Int) := by omega
    refine ⟨m, rfl, by omega, by omega, for_range (lo := 0) (n := m.toNat) Pv (h0 H1 d1) (fun i σ' H' hi p => ?_) (fun σ' H' p => hd m.toNat σ' H' (by rw [← em]; exact hm) p)⟩
    have e0 : (0 : Int) + (i : Int) = (i : Int) := Int.zero_add _
    rw [e0]
    exact hb m.toNat i σ' H' (by rw [← em]; exact hm) hi p
theorem x_asgS {Pr : V → Hp → Prop} {n : Nat} (hs : HS H h l) (hx : EvX te σ H h l Pr) (k : ∀ v H2, Dr h l H H2 → Pr v (wn H2 (hl h l)) → D.nx (σ.set n (some v)) H2) : tAsg te (gName n) D σ H := hx H (Dr.refl hs) _ k
theorem x_chg {E : XK} {cells : List Int} {t : List Nat} (hc : SqL K (wn H (hl h l)) l (cells.map V.int)) (ha : ∀ G, Ev ta σ G (.ref h)) (hb : ∀ G, Ev tb σ G (vs_ t)) (ht : t.length ≤ 20000) : EvX (tCall (sp_changed K) [] E (tCons ta (tCons tb tNil))) σ H h l (fun v _ => ∃ t' : List Nat, v = vs_ t' ∧ t'.length ≤ 2 * t.length + 600) := fun H1 d Q q =>
  ha H1 H1 (Ex.refl _) _ fun H2 e2 => hb H2 H2 (Ex.refl _) _ fun H3 e3 => by
    have d3 := Dr.of d.hs (e2.trans e3)
    exact ⟨h, l, cells, t, rfl, ht, d3.hs, ex_l (d.trans d3).ex hc, fun t' H4 lt d4 => q _ H4 (d3.trans d4) ⟨t', rfl, lt⟩⟩
theorem rep_len {cm : CoM bs ds (keepL bs life)} (hb : ∀ j, bk bs j ≤ 1000000000) (hd : ∀ j, dm bs ds j ≤ 1000000000) {a n : Nat} (hn : n < 6) (ha : (a : Int) + (n : Int) ≤ 1000000000000000000) : (TL.joinL [10] (repL bs ds life a (n + 1))).length ≤ 3600 ∧ ((repL bs ds life a (n + 1)).map (·.length)).sum + (repL bs ds life a (n + 1)).length * ([10] : List Nat).length ≤ 16777216 := by
  have l1 : (repL bs ds life a (n + 1)).length = n + 2 := by unfold repL; rw [List.length_cons, List.length_map, List.length_range]
  have s1 := sum_le (B := 500) (repL bs ds life a (n + 1)) fun x hx => by
    unfold repL at hx
    rcases List.mem_cons.mp hx with rfl | hx
    · decide
    · obtain ⟨j, hj, rfl⟩ := List.mem_map.mp hx
      have hj := List.mem_range.mp hj
      exact line_len (row_small cm hb hd (t := a + j) (by omega)).2.2.2.2
  have j1 := joinL_le (repL bs ds life a (n + 1))
  unfold wt at j1
  rw [l1] at s1 j1 ⊢
  have : ([10] : List Nat).length = 1 := rfl
  rw [this]
  omega
end
/-! ### what parse_report gives, and what the law expects -/
def AgT (G : Hp) (v : V) (L : List (List Nat)) : Prop := (∃ (r : Nat) (p : Addr), repBad L = some r ∧ v = .ref p ∧ G p = some (.tup [.str "InvalidReport", .int (r : Int)])) ∨ (repBad L = none ∧ ∃ p : Addr, v = .ref p ∧ RowsT G p (repNums L))
theorem RowsT.mono {G G' : Hp} {p : Addr} {nss : List (List Nat)} (e : Ex G G') (x : RowsT G p nss) : RowsT G' p nss := let ⟨qs, a, b, c⟩ := x; ⟨qs, e _ _ a, b, fun i q hq => e _ _ (c i q hq)⟩
theorem AgT.mono {G G' : Hp} {v : V} {L : List (List Nat)} (e : Ex G G') (x : AgT G v L) : AgT G' v L := by
  rcases x with ⟨r, p, a, b, c⟩ | ⟨a, p, b, c⟩
  · exact .inl ⟨r, p, a, b, e _ _ c⟩
  · exact .inr ⟨a, p, b, c.mono e⟩
theorem AgT.wn {G : Hp} {v : V} {L : List (List Nat)} {N : Addr → Prop} (hN : ∀ b, N b → ∃ o, G b = some (.frz o okT)) (x : AgT G v L) : AgT (Sw.wn G N) v L := by
  have k : ∀ {b : Addr} {o : HO}, G b = some o → (∀ u, o ≠ .frz u okT) → Sw.wn G N b = some o := fun {b o} e n => (wn_ni fun z => let ⟨u, q⟩ := hN b z; n u (Option.some.inj (e.symm.trans q))).trans e
  rcases x with ⟨r, p, a, b, c⟩ | ⟨a, p, b, qs, c1, c2, c3⟩
  · exact .inl ⟨r, p, a, b, k c fun _ z => nomatch z⟩
  · exact .inr ⟨a, p, b, qs, k c1 (fun _ z => nomatch z), c2, fun i q hq => k (c3 i q hq) fun _ z => nomatch z⟩
theorem AgT.alk {K : PySem.W.Frag} {G : Hp} {v v' : V} {L : List (List Nat)} (x : AgT G v L) (y : AgT G v' L) (hl : L.length ≤ 30001) (h5 : ∀ ns ∈ repNums L, ns.length ≤ 1000) : Alk K G 2 v v' := by
  have nums : ∀ (m : Nat) (ns : List Nat) (i : Nat) (u w : V), (ns.map vn)[i]? = some u → (ns.map vn)[i]? = some w → Alk K G m u w := fun m ns i u w hu hw => by
    have e : u = w := Option.some.inj (hu.symm.trans hw)
    subst e
    obtain ⟨rfl, _⟩ := at_vn hu
    cases m with
    | zero => exact .inl ⟨_, rfl, rfl⟩
    | succ m => exact .inl (.inl ⟨_, rfl, rfl⟩)
  rcases x with ⟨r, p, a, rfl, c⟩ | ⟨a, p, rfl, qs, c1, c2, c3⟩ <;> rcases y with ⟨r', p', a', rfl, c'⟩ | ⟨a', p', rfl, qs', d1, d2, d3⟩
  · rw [a] at a'
    cases a'
    refine .inr ⟨p, p', _, _, rfl, rfl, .inl ⟨st_of c, st_of c'⟩, rfl, by show 2 ≤ 40000; decide, fun i u w hu hw => ?_⟩
    have e : u = w := Option.some.inj (hu.symm.trans hw)
    subst e
    match i, hu with
    | 0, hu => cases hu; exact .inl (.inr (.inr ⟨_, rfl, rfl⟩))
    | 1, hu => cases hu; exact .inl (.inl ⟨_, rfl, rfl⟩)
    | _ + 2, hu => cases hu
  · rw [a] at a'; cases a'
  · rw [a] at a'; cases a'
  · refine .inr ⟨p, p', _, _, rfl, rfl, .inr ⟨sq_of c1, sq_of d1⟩, by rw [List.length_map, List.length_map, c2, d2], ?_, fun i u w hu hw => ?_⟩
    · rw [List.length_map, c2]
      unfold repNums
      rw [List.length_map, List.length_drop]; omega
    · rw [List.getElem?_map] at hu hw
      obtain ⟨q, hq, rfl⟩ := Option.map_eq_some_iff.mp hu
      obtain ⟨q', hq', rfl⟩ := Option.map_eq_some_iff.mp hw
      have li : i < (repNums L).length := by rw [← c2]; exact (List.getElem?_eq_some_iff.mp hq).1
      have z5 := h5 ((repNums L).getD i []) (List.mem_of_getElem? (show (repNums L)[i]? = some ((repNums L).getD i []) by simp [List.getD, li]))
      exact .inr ⟨q, q', _, _, rfl, rfl, .inl ⟨st_of (c3 i q hq), st_of (d3 i q' hq')⟩, rfl, by rw [List.length_map]; omega, fun j u w hu hw => nums 0 _ j u w hu hw⟩
theorem nums5 (L : List (List Nat)) : ∀ ns ∈ repNums L, ns.length ≤ 1000 := fun ns hn => by
  obtain ⟨l, _, rfl⟩ := List.mem_map.mp hn
  cases hr : rdOne l with
  | none => exact Nat.zero_le _
  | some ns => rw [show (some ns).getD [] = ns from rfl, (rdOne_some.mp hr).len]; decide
def sp_lamR (Z : Ad) (L : List (List Nat)) : Sp := fun vs H Q E => vs = [] ∧ RepOut Z L H Q E
theorem mix_back {Cl : Addr → Prop} {H H3 : Hp} (hcl : ∀ b, Cl b → H3 b = none) : Ex H3 (mixN Cl H H3) := fun b o e => (mix_ni fun z => by rw [hcl b z] at e; cases e).trans e
theorem rep_mix {Z : Ad} {L : List (List Nat)} {H : Hp} {Q : VK} {E : XK} {Cl : Addr → Prop} (r : RepOut Z L H Q E) :
    RepOut Z L (wn H Cl) (fun v H3 => (∀ b, Cl b → H3 b = none) → Q v (mixN Cl H H3)) (fun c d H3 => (∀ b, Cl b → H3 b = none) → E c d (mixN Cl H H3)) := by
  refine ⟨fun x hx d H3 ex nd hd hcl => ?_, fun hn p H3 ex hR hcl => ?_⟩
  · have nc : ¬ Cl d := fun z => by rw [hcl d z] at hd; cases hd
    exact r.1 x hx d _ (mix_over ex) ((wn_ni nc).symm.trans nd) (mix_back hcl _ _ hd)
  · exact r.2 hn p _ (mix_over ex) (hR.mono (mix_back hcl))
theorem RepOut.mono {Z : Ad} {L : List (List Nat)} {H G : Hp} {Q : VK} {E : XK} (r : RepOut Z L H Q E) (e : Ex H G) : RepOut Z L G Q E := ⟨fun x hx => (r.1 x hx).mono e, fun hn p H2 e2 hR => r.2 hn p H2 (e.trans e2) hR⟩
section
variable {P : Program} {w : World} {K : PySem.W.Frag} {mg : Str → Option Value} {base : Heap} {Z : Ad} {X : Cx} {σ : L2.St} {G : Hp} {T : List NTab}
theorem out_lamE {mk : Addr → LF} {Pr : Addr → Hp → Prop} (hT : TabsN T G) (lam : ∀ f c' H7, ExtN G H7 → H7 f = some (LamO f (mk c')) → H7 c' = some (CodeO c' (mk c').qual) → Pr f H7) : ∀ Q : VK, (∀ f H7, ExtN G H7 → TabsN T H7 → Pr f H7 → Q (.ref f) H7) → tLamE T mk σ G Q := fun Q q =>
  ⟨hT, fun f c' H1 e1 _ e3 _ e5 e6 => q f H1 e1 e3 (lam f c' H1 e1 e5 e6)⟩
theorem q_outR {tlam td : TE} {E E' : XK} {t : List Nat} {tz tu : TS} {D : Ends}
    (hl : ∀ Q : VK, (∀ f H7, ExtN G H7 → TabsN T H7 → (∀ Hz N, Frz X σ H7 Hz N → Cal P w K mg base (L2.CX P w) 9 f (sp_lamR Z (TL.spl [10] 0 [] t)) Hz) → Q (.ref f) H7) → tlam σ G Q) (ht : t.length ≤ 30000)
    (hd : ∀ G', Ev td σ G' (vs_ t)) (fin : ∀ G', ExtN G G' → TabsN T G' → tz D σ G') :
    tSeq (tIfS (tNot (tB (tCall (sp_same K 2) [] E (tCons (tCallZ X (sp_out P w K mg base Z) [] (tCons tlam tNil)) (tCons (tCall sp_lread [] E' (tCons td tNil)) tNil))))) tu tNext) tz D σ G := by
  have hcn := spl_cnt t []
  generalize hL : TL.spl [10] 0 [] t = L at hl hcn
  refine hl _ fun f H7 eN T7 C7 => ?_
  intro Hz N fz
  have nN : ∀ {b : Addr} {o : HO}, H7 b = some o → ¬ N b := fun e n => by rw [fz.off _ n] at e; cases e
  have go : ∀ v H2, Ex Hz H2 → AgT H2 v L → tSeq (tIfS (tNot (tB (tCall (sp_same K 2) [] E (tCons (tC v) (tCons (tCall sp_lread [] E' (tCons td tNil)) tNil))))) tu tNext) tz D σ (wn H2 N) := fun v H2 eZ ha => by
    have ha' := ha.wn (N := N) (fun b n => let ⟨o, _, e, _⟩ := fz.inn b n; ⟨o, eZ _ _ e⟩)
    have en : ExtN G (wn H2 N) := fun b o e n => have e7 := eN b o e n; (wn_ni (nN e7)).trans (eZ _ _ (fz.ex_ _ _ e7))
    have T2 : TabsN T (wn H2 N) := T7.ext fun b o e => (wn_ni (nN e)).trans (eZ _ _ (fz.ex_ _ _ e))
    have ev : Ev (tCall (sp_same K 2) [] E (tCons (tC v) (tCons (tCall sp_lread [] E' (tCons td tNil)) tNil))) σ (wn H2 N) (.bl true) := fun H1 e Q q => hd H1 H1 (Ex.refl _) _ fun H3 e3 => by
      have fin2 : ∀ (v' : V) H4, Ex H3 H4 → AgT H4 v' L → sp_same K 2 ([v, v'] ++ []) H4 Q E := fun v' H4 e4 y => ⟨v, v', rfl, ((ha'.mono e).mono (e3.trans e4)).alk y (by omega) (nums5 L), fun H5 e5 => q H5 ((e3.trans e4).trans e5)⟩
      refine ⟨t, rfl, ht, ?_⟩
      rw [hL]
      exact ⟨fun r hr p H4 np e4 h4 => fin2 _ H4 e4 (.inl ⟨r, p, hr, rfl, h4⟩), fun hn p H4 e4 hR => fin2 _ H4 e4 (.inr ⟨hn, p, rfl, hR⟩)⟩
    exact q_when (b := false) (et_not (a := true) (et_B ev)) (fun hb => nomatch hb) fun _ H3 e3 => fin H3 (fun b o x n => e3 _ _ (en b o x n)) (T2.ext e3)
  refine ⟨f, _, Hz, rfl, C7 Hz N fz, Ex.refl _, fun Q1 E1 q1 e1 => ⟨rfl, fun r hr d H' ex nd hd2 => e1 _ _ _ (.inr ⟨d, (r : Int), rfl, rfl, hd2, fun p' H2 np e2 h2 => go _ _ (ex.trans e2) (.inl ⟨r, p', hr, rfl, h2⟩)⟩), fun hn p H' ex hR => q1 _ _ (go _ _ ex (.inr ⟨hn, p, rfl, hR⟩))⟩⟩
end
end Sw
namespace Sw
open PySem PySem.Spec PyProof.Rows L2 Evl LamX NdefX SX
local macro_rules | `(tactic| walk_at "ev") => `(tactic| first
  | exact ev_c
  | exact ev_var rfl
  | ((with_reducible show Ev (tCB rMax2 _) _ _ _); exact ev_maxi (by walk_at "ev") (by walk_at "ev"))
  | ((with_reducible show Ev (tCB rMn _) _ _ _); exact ev_min2 (by walk_at "ev") (by walk_at "ev"))
  | ((with_reducible show Ev (tUn _ _) _ _ _); exact ev_un (by walk_at "ev") ru_neg)
  | ((with_reducible show Ev (tFld _ _ _) _ _ _); exact ev_fldK (by walk_at "ev") (by assumption))
  | ((with_reducible show Ev (tOp (rI0 _) _ _) _ _ _); exact ev_op (by walk_at "ev") (by walk_at "ev") rv_I0)
  | ((with_reducible show Ev (tOp rEq _ _) _ _ _); exact ev_op (by walk_at "ev") (by walk_at "ev") (rv_eq rfl))
  | ((with_reducible show Ev (tOp rNe _ _) _ _ _); exact ev_op (by walk_at "ev") (by walk_at "ev") (rv_ne rfl)))

def sp_lawT (K : PySem.W.Frag) (tb : Addr) : Sp := fun vs H Q _ => ∃ (a : Addr) (ns : List Int), vs = [.ref a] ∧ SqL K H a (ns.map V.int) ∧ ns.length ≤ 63 ∧ H tb = some (.tbl #[]) ∧ ∀ H', Q (.bl true) H'
variable {P : Program} {w : World} {K : PySem.W.Frag} {mg : Str → Option Value} {base : Heap} {Z : Ad}
def nmLaw : Nat → Nat → Str := fun _ _ => "law.<locals>." ++ "<lambda>"
theorem ok_law (T : Txt K mg Z) (hP : P = Z.P) (TB : LamX.TabB base mg Z.k_law Z.tb_law) : FnOk P w K mg base CX0 11 Z.f_law Z.d_law p_law (sp_lawT K Z.tb_law) := by
  refine T.FC_law.ok sc_law (fun vs H Q E h => ?_) (fun Ar outer s H vs Q E hr h => ?_)
  · obtain ⟨a, ns, rfl, _⟩ := h
    rfl
  · obtain ⟨l, cells, rfl, hS, hn, hT0, k⟩ := h
    have TBm : (Z.tb_law, nmLaw) ∈ [(Z.tb_law, nmLaw)] := List.mem_singleton.mpr rfl
    have TBu : ∀ p ∈ [(Z.tb_law, nmLaw)], p.1 = Z.tb_law → p.2 = nmLaw := fun p hp _ => by rw [List.mem_singleton.mp hp]
    have T0 : TabsN [(Z.tb_law, nmLaw)] H := fun p hp => by rw [List.mem_singleton.mp hp]; exact TabN.nil hT0
    have p9 : (10 : Int) ^ (9 : Int).toNat = 1000000000 := by decide
    have p18 : (10 : Int) ^ (18 : Int).toNat = 1000000000000000000 := by decide
    refine ⟨_, (pss_cons (ps_set (i := 1) sc_law.nd rfl (Or.inl rfl) (pe_call (ok__law_start T) (hr.mono (by decide)) (by rfl) T.g__law_start T.F__law_start.kp T.b__law_start .nil pass0 (pa_cons (pv 0) pa_nil)))
      (pss_cons (ps_for PassesOwn.never rfl (pi_range1 (by rfl) T.b_range (pa_cons pe_int pa_nil)) (pg_name (i := 2) sc_law.nd rfl (Or.inl rfl)) (pss_cons (ps_par (i := 3) (j := 4) rfl sc_law.nd rfl rfl (by decide) rfl rfl (pa_cons (pe_ix (r := rIxL K) ix_list (pe_lst (pa_cons pe_int (pa_cons pe_int (pa_cons (pe_op op_pow pe_int pe_int) pa_nil)))) (pe_call (ok__law_drawn T) (hr.mono (by decide)) (by rfl) T.g__law_drawn T.F__law_drawn.kp T.b__law_drawn .nil pass0 (pa_cons (pv 1) (pa_cons pe_int pa_nil))) (fun _ _ => rfl)) (pa_cons (pe_op op_add pe_int (pe_call (ok__law_drawn T) (hr.mono (by decide)) (by rfl) T.g__law_drawn T.F__law_drawn.kp T.b__law_drawn .nil pass0 (pa_cons (pv 1) (pa_cons pe_int pa_nil)))) pa_nil)) (by rfl))
      (pss_cons (ps_par (i := 5) (j := 6) rfl sc_law.nd rfl rfl (by decide) rfl rfl (pa_cons (pe_call (ok__law_amounts T) (hr.mono (by decide)) (by rfl) T.g__law_amounts T.F__law_amounts.kp T.b__law_amounts .nil pass0 (pa_cons (pv 1) (pa_cons (pv 4) (pa_cons (pv 3) pa_nil)))) (pa_cons (pe_call (ok__law_amounts T) (hr.mono (by decide)) (by rfl) T.g__law_amounts T.F__law_amounts.kp T.b__law_amounts .nil pass0 (pa_cons (pv 1) (pa_cons (pv 4) (pa_cons (pv 3) pa_nil)))) pa_nil)) (by rfl))
      (pss_cons (ps_set (i := 14) sc_law.nd rfl (Or.inr rfl) (pe_make T.mk_Bakery (ok_Bakery___init__ T) (hr.mono (by decide)) (by rfl) T.g_Bakery T.b_Bakery___init__ .nil pass0 (pa_cons (pv 5) (pa_cons (pv 6) (pa_cons (pe_op op_add pe_int (pe_call (ok__law_drawn T) (hr.mono (by decide)) (by rfl) T.g__law_drawn T.F__law_drawn.kp T.b__law_drawn .nil pass0 (pa_cons (pv 1) (pa_cons pe_int pa_nil)))) pa_nil)))))
      (pss_cons (ps_set (i := 7) sc_law.nd rfl (Or.inl rfl) (pe_call (ok__law_drawn T) (hr.mono (by decide)) (by rfl) T.g__law_drawn T.F__law_drawn.kp T.b__law_drawn .nil pass0 (pa_cons (pv 1) (pa_cons (pe_ix (r := rIxL K) ix_list (pe_lst (pa_cons pe_int (pa_cons (pe_op op_sub (pe_op op_pow pe_int pe_int) pe_int) pa_nil))) (pe_call (ok__law_drawn T) (hr.mono (by decide)) (by rfl) T.g__law_drawn T.F__law_drawn.kp T.b__law_drawn .nil pass0 (pa_cons (pv 1) (pa_cons pe_int pa_nil))) (fun _ _ => rfl)) pa_nil))))
      (pss_cons (ps_set (i := 8) sc_law.nd rfl (Or.inl rfl) (pe_op op_add (pv 7) (pe_call (ok__law_drawn T) (hr.mono (by decide)) (by rfl) T.g__law_drawn T.F__law_drawn.kp T.b__law_drawn .nil pass0 (pa_cons (pv 1) (pa_cons pe_int pa_nil)))))
      (pss_cons (ps_set (i := 9) sc_law.nd rfl (Or.inl rfl) (pe_lst (pa_cons (pe_call (ok__law_line T) (hr.mono (by decide)) (by rfl) T.g__law_line T.F__law_line.kp T.b__law_line .nil pass0 (pa_cons (pe_lst (pa_cons pe_str (pa_cons pe_str (pa_cons pe_str (pa_cons pe_str (pa_cons pe_str pa_nil)))))) pa_nil)) pa_nil)))
      (pss_cons (ps_for PassesOwn.never rfl (pi_range2 (by rfl) T.b_range (pa_cons (pv 7) (pa_cons (pe_op op_add (pv 8) pe_int) pa_nil))) (pg_name (i := 10) sc_law.nd rfl (Or.inl rfl)) (pss_cons (ps_set (i := 11) sc_law.nd rfl (Or.inl rfl) (pe_lst (pa_cons (pv 10) (pa_cons (pe_ix (r := rIxT K) ix_tup (pv 5) (pe_op op_mod (pv 10) (pv 4)) (fun _ _ => rfl)) (pa_cons (pe_meth (pv 14) T.cl_Bakery T.m_Bakery_sold (ok_Bakery_sold T) (hr.mono (by decide)) T.b_Bakery_sold .nil pass0 (pa_cons (pv 10) pa_nil)) (pa_cons (pe_meth (pv 14) T.cl_Bakery T.m_Bakery_missed (ok_Bakery_missed T) (hr.mono (by decide)) T.b_Bakery_missed .nil pass0 (pa_cons (pv 10) pa_nil)) (pa_cons (pe_meth (pv 14) T.cl_Bakery T.m_Bakery_thrown (ok_Bakery_thrown T) (hr.mono (by decide)) T.b_Bakery_thrown .nil pass0 (pa_cons (pv 10) pa_nil)) pa_nil)))))))
      (pss_one (ps_expr (pe_bm PySem.F.plainAttrs_list PySem.F.slot_list_append PySem.F.type_list_append mt_append (pv 9) (pa_cons (pe_call (ok__law_line T) (hr.mono (by decide)) (by rfl) T.g__law_line T.F__law_line.kp T.b__law_line .nil pass0 (pa_cons (pe_lc (own := [("_law_number_here", 17)]) rfl sc_law.nd (pi_listK K rfl (pv 11)) (blkOk_by (own := [("_law_number_here", 17)]) (N := n_law) (sc := defScope s_law) (scope := { kind := PySem.ScopeKind.function, names := [ (PySem.Str.ofString ".0", PySem.NameKind.local), (PySem.Str.ofString "_law_number_here", PySem.NameKind.local), (PySem.Str.ofString "_law_grouped", PySem.NameKind.globalImplicit)], isGenerator := false, isCoroutine := false, more := [] : PySem.Scope }) (by decide +kernel)) (fun _ _ _ _ _ => (pg_name (i := 17) sc_law.nd rfl (Or.inl rfl))) (fun _ _ _ _ _ => pts_nil) (fun _ _ _ _ _ => (pe_call (ok__law_grouped T) (hr.mono (by decide)) (by rfl) T.g__law_grouped T.F__law_grouped.kp T.b__law_grouped .nil pass0 (pa_cons (pv 17) pa_nil)))) pa_nil)) pa_nil))))))
      (pss_cons (ps_set (i := 15) sc_law.nd rfl (Or.inr rfl) (pe_m1 PySem.F.slot_str_join PySem.F.type_str_join (mt_jn K rfl) pe_str (pv 9)))
      (pss_cons (ps_if (pt_cmpR op_ne (pe_call (ok_report T) (hr.mono (by decide)) (by rfl) T.g_report T.F_report.kp T.b_report .nil pass0 (pa_cons (pv 14) (pa_cons (pv 7) (pa_cons (pv 8) pa_nil)))) (pv 15) (nomark _)) (pss_one (ps_ret pe_bl)) pss_nil)
      (pss_cons (ps_for PassesOwn.never rfl (pi_range1 (by rfl) T.b_range (pa_cons (pe_call (ok__law_drawn T) (hr.mono (by decide)) (by rfl) T.g__law_drawn T.F__law_drawn.kp T.b__law_drawn .nil pass0 (pa_cons (pv 1) (pa_cons pe_int pa_nil))) pa_nil)) (pg_name (i := 12) sc_law.nd rfl (Or.inl rfl)) (pss_one (ps_set (i := 15) sc_law.nd rfl (Or.inr rfl) (pe_call (ok__law_changed T) (hr.mono (by decide)) (by rfl) T.g__law_changed T.F__law_changed.kp T.b__law_changed .nil pass0 (pa_cons (pv 1) (pa_cons (pv 15) pa_nil))))))
      (pss_cons (ps_if (pt_not (pt_val (pe_call (ok__law_same T 2) (hr.mono (by decide)) (by rfl) T.g__law_same T.F__law_same.kp T.b__law_same .nil pass0 (pa_cons (pe_callZ (ok__law_outcome T) (hr.mono (by decide)) (by rfl) T.g__law_outcome T.F__law_outcome.kp T.b__law_outcome .nil (pa_cons (pe_lamE TB rfl TBm rfl TBu rfl (fun y hy e => ndef_free (sc := defScope s_law) (fr := []) (by decide +kernel) y hy e)) pa_nil)) (pa_cons (pe_call (ok__law_read T) (hr.mono (by decide)) (by rfl) T.g__law_read T.F__law_read.kp T.b__law_read .nil pass0 (pa_cons (pv 15) pa_nil)) pa_nil))))) (pss_one (ps_ret pe_bl)) pss_nil)
      (pss_cons (ps_set (i := 13) sc_law.nd rfl (Or.inl rfl) (pe_lst (pa_cons (pe_lamE TB rfl TBm rfl TBu rfl (fun y hy e => ndef_free (sc := defScope s_law) (fr := []) (by decide +kernel) y hy e)) (pa_cons (pe_lamD TB rfl TBm rfl TBu pe_int rfl (fun y hy e => ndef_free (sc := defScope s_law) (fr := []) (by decide +kernel) y hy e)) (pa_cons (pe_lamD TB rfl TBm rfl TBu pe_int rfl (fun y hy e => ndef_free (sc := defScope s_law) (fr := []) (by decide +kernel) y hy e)) pa_nil)))))
      (pss_one (ps_if (pt_cmpR (op_neD hr.units) (pe_lcF (own := [("_law_work", 16)]) (sc := { kind := PySem.ScopeKind.function, names := [ (PySem.Str.ofString ".0", PySem.NameKind.local), (PySem.Str.ofString "_law_work", PySem.NameKind.local), (PySem.Str.ofString "_law_outcome", PySem.NameKind.globalImplicit)], isGenerator := false, isCoroutine := false, more := [] : PySem.Scope }) rfl sc_law.nd (pi_listK K rfl (pv 13)) (blkOk_by (own := [("_law_work", 16)]) (N := n_law) (sc := defScope s_law) (scope := { kind := PySem.ScopeKind.function, names := [ (PySem.Str.ofString ".0", PySem.NameKind.local), (PySem.Str.ofString "_law_work", PySem.NameKind.local), (PySem.Str.ofString "_law_outcome", PySem.NameKind.globalImplicit)], isGenerator := false, isCoroutine := false, more := [] : PySem.Scope }) (by decide +kernel)) (by decide +kernel) (fun _ _ _ _ _ => (pg_name (i := 16) sc_law.nd rfl (Or.inl rfl))) (fun _ _ _ _ _ => (pe_call (ok__law_outcome (P := P) (w := w) (base := base) T) (hr.mono (by decide)) (by rfl) T.g__law_outcome T.F__law_outcome.kp T.b__law_outcome .nil pass0 (pa_cons (pv 16) pa_nil)))) (pe_op op_rep (pe_lst (pa_cons (pe_tup (pa_cons pe_str pa_nil)) pa_nil)) pe_int) (nomark _)) (pss_one (ps_ret pe_bl)) pss_nil)))))))))))))))
      (pss_one (ps_ret pe_bl)))), ?_⟩
    refine ⟨_, rfl, l, cells, rfl, hS, hn, fun h H1 hh e1 hs1 => ?_⟩
    refine q_forR1 (n := 3) (ea_cons ev_c ea_nil) ⟨by decide, by decide⟩ (fun _ σ' H' => (∃ x2 x3 x4 x5 x6 x7 x8 x9 x10 x11 x12 x13 x14 x15 x16 x17, σ' = [some (.ref l), some (.ref h), x2, x3, x4, x5, x6, x7, x8, x9, x10, x11, x12, x13, x14, x15, x16, x17]) ∧ HS H' h l ∧ SqL K (Fx h l H') l (cells.map V.int) ∧ TabsN [(Z.tb_law, nmLaw)] H')
      (fun H2 e2 => ⟨⟨_, _, _, _, _, _, _, _, _, _, _, _, _, _, _, _, rfl⟩, hs1.mono e2, sql_fx hh hS (e1.trans e2), (T0.ext e1).ext e2⟩) ?_ (fun σ' H' q => ?_)
    · rintro turn σ' H0 ht ⟨⟨_, _, _, _, _, _, _, _, _, _, _, _, _, _, _, _, rfl⟩, hs0, hc0', T1⟩
      have hc0 : SqL K (wn H0 (hl h l)) l (cells.map V.int) := ex_l fx_wn hc0'
      -- the greatest amount, the size
      refine x_par hs0 (P := fun v _ => ∃ i, v = .int i ∧ (i = 5 ∨ i = 3000 ∨ i = 1000000000)) (Q := fun v _ => ∃ i, v = .int i ∧ (1 ≤ i ∧ i < 7)) (EvI.imp (B := fun i => i = 5 ∨ i = 3000 ∨ i = 1000000000) (xi_pick (K := K) (n := 3) (ns := [5, 3000, 1000000000]) (B := fun i => 0 ≤ i ∧ i < 3) (el_lst (ea_cons ev_c (ea_cons ev_c (ea_cons (Ev.int_eq (ev_op ev_c ev_c (rv_I ⟨by decide, by decide, by decide⟩)) p9) ea_nil))) (by show 3 ≤ 100000; decide))
        (xi_dr (cells := cells) hc0 (fun G => ev_var rfl) (xi_ev ev_c rfl) (by decide) (by decide)) (fun i q => by simpa using q)) fun i q => by simpa using q)
        (xi_op0 (A := fun i => i = 1) (D := fun i => 1 ≤ i ∧ i < 7) (xi_ev ev_c rfl) (xi_dr (cells := cells) (n := 6) hc0 (fun G => ev_var rfl) (xi_ev ev_c rfl) (by decide) (by decide)) (fun i j a b => by omega)) fun vh vz Hd H2 da db ⟨high, ev1, hh2⟩ ⟨size, ev2, hsz⟩ => ?_
      subst ev1 ev2
      have d2 := da.trans db
      have hc2 := ex_l d2.ex hc0
      -- the amounts
      refine x_par d2.hs (x_amounts (cells := cells) (n := size) (w := high) hc2 (fun G => ev_var rfl) (ev_var rfl) (ev_var rfl) (by omega) (by omega) (by omega) (by omega)) (x_amounts (cells := cells) (n := size) (w := high) hc2 (fun G => ev_var rfl) (ev_var rfl) (ev_var rfl) (by omega) (by omega) (by omega) (by omega)) fun v v' H3 H4 d3 d4 ⟨pb, bs, ev, hb3, lb, mb⟩ ⟨pd, ds, ev', hd4, ld, md⟩ => ?_
      subst ev ev'
      have d34 := d3.trans d4
      have hc4 := ex_l d34.ex hc2
      have hb4 : SqT K (wn H4 (hl h l)) pb (bs.map V.int) := ex_t d4.ex (st_of hb3)
      have hd4 : SqT K (wn H4 (hl h l)) pd (ds.map V.int) := st_of hd4
      have gd : Good bs ds := ⟨by omega, by omega, by omega, fun x hx => by have := mb x hx; omega, fun x hx => by have := md x hx; omega⟩
      have hbb : ∀ j, bk bs j ≤ 1000000000 := fun j => (getD_mem0 gd.b0).2
      have hdd : ∀ j, dm bs ds j ≤ 1000000000 := fun j => (getD_mem0 gd.d0).2
      -- the bakery
      refine q_bakD (K := K) (Z := Z) (A := fun i => 1 ≤ i ∧ i ≤ 30) d34.hs (fun G => ev_var rfl) (fun G => ev_var rfl) (xi_op0 (A := fun i => i = 1) (B := fun i => 0 ≤ i ∧ i < 30) (D := fun i => 1 ≤ i ∧ i ≤ 30) (xi_ev ev_c rfl) (xi_dr (cells := cells) (n := 30) hc4 (fun G => ev_var rfl) (xi_ev ev_c rfl) (by decide) (by decide)) (fun i j a b => by omega)) hb4 hd4 gd (fun i q => q) fun b ix life H5 d5 hB5 hli => ?_
      have hc5 := ex_l d5.ex hc4
      have hb5 := ex_t d5.ex hb4
      have cm := hB5.com
      -- the days
      refine x_asgI (A := fun i => 0 ≤ i ∧ i < 999999999999999991) d5.hs (xi_drA (cells := cells) (n := 999999999999999991) (A := fun i => i ∈ ([2000, 999999999999999991] : List Int)) hc5 (fun G => ev_var rfl) (xi_pick (K := K) (n := 2) (ns := [2000, 999999999999999991]) (B := fun i => 0 ≤ i ∧ i < 2) (el_lst (ea_cons ev_c (ea_cons (Ev.int_eq (ev_op (Ev.int_eq (ev_op ev_c ev_c (rv_I ⟨by decide, by decide, by decide⟩)) p18) ev_c rv_I0) (by decide)) ea_nil)) (by show 2 ≤ 100000; decide)) (xi_dr (cells := cells) hc5 (fun G => ev_var rfl) (xi_ev ev_c rfl) (by decide) (by decide)) (fun i q => by simpa using q)) (fun i q => by simp at q; omega) (by decide)) fun first H6 d6 hfi => ?_
      have d56 := d5.trans d6
      have hc6 := ex_l d6.ex hc5
      obtain ⟨a, ea⟩ : ∃ a : Nat, first = (a : Int) := ⟨first.toNat, by omega⟩
      subst ea
      refine x_asgI (A := fun i => (a : Int) ≤ i ∧ i < (a : Int) + 6) d6.hs (xi_op0 (A := fun i => i = (a : Int)) (B := fun i => 0 ≤ i ∧ i < 6) (xi_ev (ev_var rfl) rfl) (xi_dr (cells := cells) (n := 6) hc6 (fun G => ev_var rfl) (xi_ev ev_c rfl) (by decide) (by decide)) (fun i j p q => by omega)) fun last H7 d7 hla => ?_
      have d567 := d56.trans d7
      have hs7 := d7.hs
      obtain ⟨n, en⟩ : ∃ n : Nat, last = (a : Int) + (n : Int) := ⟨(last - (a : Int)).toNat, by omega⟩
      subst en
      have hn6 : n < 6 := by omega
      have hlast : (a : Int) + (n : Int) ≤ 1000000000000000000 := by omega
      have T7 := tabs_dr hs0 ((d2.trans d34).trans d567) T1
      have hB7 : BakAt K Z (wn H7 (hl h l)) b bs ds life ix := hB5.mono (d6.trans d7).ex
      have hb7 : SqT K (wn H7 (hl h l)) pb (bs.map V.int) := ex_t (d6.trans d7).ex hb5
      have hcF7 : SqL K (Fx h l H7) l (cells.map V.int) := ex_l (fx_dr ((d2.trans d34).trans d567)) hc0'
      have szp : 0 < size := by omega
      have lbs : (bs.length : Int) = size := by omega
      clear hc0 hc0' hs0 hc2 hb3 d2 d3 d4 d34 d5 d6 d56 d567 hc4 hb4 hd4 hc5 hb5 hB5 hc6
      -- the lines
      refine q_asgL (xs := [vs_ (lineW ws5 hdr5)]) (el_lst (ea_cons (ev_call1L (xs := hdr5.map vs_) (el_lst (ea_cons (ev_cS (by decide +kernel)) (ea_cons (ev_cS (by decide +kernel)) (ea_cons (ev_cS (by decide +kernel)) (ea_cons (ev_cS (by decide +kernel)) (ea_cons (ev_cS (by decide +kernel)) ea_nil))))) (by show 5 ≤ 100000; decide)) fun p G1 e hp => spv_line (sq_of hp) rfl (by decide)) ea_nil) (by show 1 ≤ 100000; decide)) fun M H8 nM e8 hM => ?_
      have szr : ∀ j, j < n + 1 → ((repL bs ds life a j).map vs_).length < 100000 := fun j hj => by
        unfold repL
        rw [List.length_map, List.length_cons, List.length_map, List.length_range]; omega
      refine q_forR2B (lo := (a : Int)) (n := (a : Int) + (n : Int) + 1) (ea_cons (ev_var rfl) (ea_cons (ev_op (ev_var rfl) ev_c rv_I0) ea_nil)) ⟨by omega, by omega, by omega, by omega⟩
        (fun j σ' H' => (∃ x10 x11 x12 x13 x15 x16 x17, σ' = [some (.ref l), some (.ref h), some (.int turn), some (.int high), some (.int size), some (.ref pb), some (.ref pd), some (.int (a : Int)), some (.int ((a : Int) + (n : Int))), some (.ref M), x10, x11, x12, x13, some (.ref b), x15, x16, x17]) ∧ Ex H7 H' ∧ H' M = some (.lst ((repL bs ds life a j).map vs_)))
        (fun H9 e9 => ⟨⟨_, _, _, _, _, _, _, rfl⟩, e8.trans e9, e9 _ _ hM⟩) ?_ ?_
      · rintro j σ' H' hj ⟨⟨_, _, _, _, _, _, _, rfl⟩, eP, hL⟩
        have ej : (a : Int) + (j : Int) = ((a + j : Nat) : Int) := by omega
        rw [ej]
        have hBj : BakAt K Z H' b bs ds life ix := hB7.mono (wn_ex.trans eP)
        have hbj : SqT K H' pb (bs.map V.int) := ex_t (wn_ex.trans eP) hb7
        have tj : ((a + j : Nat) : Int) ≤ 1000000000000000000 := by omega
        obtain ⟨z1, z2, z3, z4, z5⟩ := row_small cm hbb hdd (t := a + j) tj
        refine q_asgL (xs := (rowN bs ds life (a + j)).map vn) (el_is (el_lst (ea_cons (ev_var rfl) (ea_cons (ev_bk (t := a + j) (size := size) (ev_var rfl) hbj lbs szp (ev_op (ev_var rfl) (ev_var rfl) (rv_I szp))) (ea_cons (ev_meth (ev_var rfl) (hBj.nf _ (by decide)) (ea_cons (ev_var rfl) ea_nil) (spv_Bday (j := 0) hBj tj)) (ea_cons (ev_meth (ev_var rfl) (hBj.nf _ (by decide)) (ea_cons (ev_var rfl) ea_nil) (spv_Bday (j := 1) hBj tj)) (ea_cons (ev_meth (ev_var rfl) (hBj.nf _ (by decide)) (ea_cons (ev_var rfl) ea_nil) (spv_Bday (j := 2) hBj tj)) ea_nil))))) (by show 5 ≤ 100000; decide)) ?_) fun R H9 nR e9 hR => ?_
        · unfold rowN vn
          simp only [List.map_cons, List.map_nil]
          rw [Int.toNat_of_nonneg z1, Int.toNat_of_nonneg z2, Int.toNat_of_nonneg z3, Int.toNat_of_nonneg z4]; rfl
        refine s_app (v := vs_ (lineW ws5 ((rowN bs ds life (a + j)).map G))) (e9 _ _ hL) (ev_var rfl) (ev_call1L (xs := ((rowN bs ds life (a + j)).map G).map vs_) (el_is (el_lcL (fun _ => true) (fun i => vs_ (G ((rowN bs ds life (a + j)).getD i 0))) (ev_var rfl) (sq_of hR) (by show 5 ≤ 40000; decide) (fun _ => rfl) (fun _ _ _ _ _ => et_yes) (fun i x G2 e hx _ => ?_)) ?_) fun p G2 e hp => spv_line (sq_of hp) rfl (fun c hc => ?_)) (szr j (by omega)) fun H10 e10 => ?_
        · obtain ⟨rfl, _, hm⟩ := at_vn hx
          exact ev_call (ea_cons (ev_var rfl) ea_nil) (spv_grouped (z5 _ hm))
        · rw [given_all, List.length_map, map_getD 0 (fun n => vs_ (G n)), List.map_map]; rfl
        · obtain ⟨n, hn, rfl⟩ := List.mem_map.mp hc
          exact Nat.le_trans (g_len (z5 n hn)) (by decide)
        · exact ⟨⟨_, _, _, _, _, _, _, rfl⟩, Ex.mut ((eP.trans e9).trans e10) nM, by rw [repL_succ, List.map_append]; exact upd_same⟩
      rintro σ' H9 ⟨⟨_, _, _, _, _, _, _, rfl⟩, eP, hL⟩
      have en1 : ((a : Int) + (n : Int) + 1 - (a : Int)).toNat = n + 1 := by omega
      rw [en1] at hL
      obtain ⟨lt0, jz⟩ := rep_len (cm := cm) hbb hdd hn6 hlast
      refine q_asg (v := vs_ (TL.joinL [10] (repL bs ds life a (n + 1)))) (ev_jnV (c := [10]) (ev_cS (by decide +kernel)) (ev_var rfl) (sq_of hL) jz) fun H10 e10 => ?_
      have eP10 := eP.trans e10
      have hB10 : BakAt K Z H10 b bs ds life ix := hB7.mono (wn_ex.trans eP10)
      refine q_when (b := false) (et_is (et_test (ev_op (ev_call (ea_cons (ev_var rfl) (ea_cons (ev_var rfl) (ea_cons (ev_var rfl) ea_nil))) (fun _ e Q q E => ⟨b, bs, ds, life, ix, a, n, rfl, hB10.mono e, hbb, hdd, hlast, by omega, q⟩)) (ev_var rfl) rv_neS)) (by simp)) (fun hb => nomatch hb) fun _ H11 e11 => ?_
      have eP11 := eP10.trans e11
      have hs11 := hs7.mono eP11
      have w11 : Ex (wn H7 (hl h l)) (wn H11 (hl h l)) := wn_mono eP11
      have T11 := T7.ext eP11
      have hcF11 : SqL K (Fx h l H11) l (cells.map V.int) := ex_l (fx_ex eP11) hcF7
      have hc11 : SqL K (wn H11 (hl h l)) l (cells.map V.int) := ex_l fx_wn hcF11
      have hB11 : BakAt K Z (wn H11 (hl h l)) b bs ds life ix := hB7.mono w11
      generalize TL.joinL [10] (repL bs ds life a (n + 1)) = t0 at lt0
      clear hL jz eP eP10 eP11 e8 e10 e11 hM hB10 hB7 hb7 hcF7 hs7 T7 w11
      -- the changes
      refine x_forR1 (j := 12) hs11 (A := fun i => 0 ≤ i ∧ i < 3) (xi_dr (cells := cells) (n := 3) hc11 (fun G => ev_var rfl) (xi_ev ev_c rfl) (by decide) (by decide)) (fun i q => by omega) (fun i σ' H' => (∃ (t : List Nat) (x12 : Option V), σ' = [some (.ref l), some (.ref h), some (.int turn), some (.int high), some (.int size), some (.ref pb), some (.ref pd), some (.int (a : Int)), some (.int ((a : Int) + (n : Int))), some (.ref M), _, _, x12, _, some (.ref b), some (vs_ t), _, _] ∧ t.length ≤ (if i = 0 then 3600 else if i = 1 then 7800 else 16200)) ∧ Dr h l H11 H')
        (fun H12 d12 => ⟨⟨t0, _, rfl, lt0⟩, d12⟩) ?_ ?_
      · rintro m i σ' H' hm hi ⟨⟨t, x12, rfl, lt⟩, dH⟩
        have i2 : i < 2 := by omega
        have lt2 : t.length ≤ 7800 := by
          match i, i2 with
          | 0, _ => exact Nat.le_trans lt (by decide)
          | 1, _ => exact lt
        refine x_asgS dH.hs (x_chg (cells := cells) (t := t) (ex_l dH.ex hc11) (fun G => ev_var rfl) (fun G => ev_var rfl) (by omega)) fun v H12 d12 ⟨t', ev, lt'⟩ => ?_
        subst ev
        refine ⟨⟨t', _, rfl, ?_⟩, dH.trans d12⟩
        match i, i2 with
        | 0, _ => exact (show t'.length ≤ 7800 by have : t.length ≤ 3600 := lt; omega)
        | 1, _ => exact (show t'.length ≤ 16200 by omega)
      rintro m σ' H12 hm ⟨⟨t, x12, rfl, lt⟩, d12⟩
      have ltt : t.length ≤ 30000 := Nat.le_trans lt (by split <;> (try split) <;> decide)
      have hs12 := d12.hs
      have T12 := tabs_dr hs11 d12 T11
      have hcF12 : SqL K (Fx h l H12) l (cells.map V.int) := ex_l (fx_dr d12) hcF11
      have hB12 : BakAt K Z H12 b bs ds life ix := (hB11.mono d12.ex).mono wn_ex
      -- reading
      refine q_outR (t := t) (out_lamE T12 fun f c' H13 eN hf hc Hz N fz => ?_) ltt (fun G => ?_) fun H13 eN T13 => ?_
      · refine lam_cal (N := ["_law_text"]) (ps := []) (fr := ["_law_text"]) (k := 8) (S0 := H13) (clo_frz (js := [15]) fz hf hc rfl (fun y hy e => ndef_free (sc := defScope s_law) (fr := []) (by decide +kernel) y hy e) (ndef_fr (sc := defScope s_law) (by decide +kernel)) rfl) (nscope_by (by dsimp only; decide +kernel)) backsX (fun _ _ us hl => match us, hl with | [], _ => rfl) (fun vs H Q E q => by rw [q.1]; rfl) fz.ex_
          (cl_none fz (fun y hy e => ndef_free (sc := defScope s_law) (fr := []) (by decide +kernel) y hy e)) (fun A outer s H vs Q E hr eS x0 q => ?_)
        obtain ⟨rfl, rr⟩ := q
        refine ⟨_, pe_call (okX_parse_report T hP) (hr.mono (by decide)) (by rfl) T.g_parse_report T.F_parse_report.kp T.b_parse_report .nil (passes_call (takes_of rfl rfl rfl rfl) (fun _ _ _ _ h => h)) (pa_cons (pv 0) pa_nil), ?_⟩
        exact (ev_var rfl) _ (Ex.refl _) _ fun G1 g1 => ⟨t, rfl, ltt, (rep_mix rr).mono g1⟩
      · exact ev_var rfl
      -- out of range
      refine q_works3 T13 fun f1 f2 f3 pw H14 eN14 T14 L1 L2' L3 hw14 => ?_
      have eNN := ExtN.tr eN eN14
      have hB14 : BakAt K Z H14 b bs ds life ix := bak_ext eNN hB12
      refine s_outs (ev_var rfl) (sq_of hw14) (fun _ => rfl) (fun _ => rfl) (fun G eG Hz N fz f hf => ?_) fun H15 e15 => ⟨⟨_, _, _, _, _, _, _, _, _, _, _, _, _, _, _, _, rfl⟩, hs_ext (ExtN.tr eNN (extN_of e15)) hs12, ex_l (fx_ext (ExtN.tr eNN (extN_of e15))) hcF12, T14.ext e15⟩
      rcases hf with rfl | rfl | rfl
      · obtain ⟨c1, a1, b1⟩ := L1
        refine lam_cal (N := ["_law_bakery"]) (ps := []) (fr := ["_law_bakery"]) (k := 8) (S0 := G) (clo_frz (js := [14]) fz (eG _ _ a1) (eG _ _ b1) rfl (fun y hy e => ndef_free (sc := defScope s_law) (fr := []) (by decide +kernel) y hy e) (ndef_fr (sc := defScope s_law) (by decide +kernel)) rfl) (nscope_by (by dsimp only; decide +kernel)) backsX (fun _ _ us hl => match us, hl with | [], _ => rfl) (fun vs H Q E q => by rw [q.1]; rfl) fz.ex_
          (cl_none fz (fun y hy e => ndef_free (sc := defScope s_law) (fr := []) (by decide +kernel) y hy e)) (fun A outer s H vs Q E hr eS x0 q => ?_)
        obtain ⟨rfl, rr⟩ := q
        refine ⟨_, pe_call (okM_report T hP) (hr.mono (by decide)) (by rfl) T.g_report T.F_report.kp T.b_report .nil (passes_call (takes_of rfl rfl rfl rfl) (fun _ _ _ _ h => h)) (pa_cons (pv 0) (pa_cons (pe_op op_sub pe_int pe_int) (pa_cons pe_int pa_nil))), ?_⟩
        exact q_rz (ea_cons (ev_var rfl) (ea_cons (ev_op ev_c ev_c rv_I0) (ea_cons ev_c ea_nil))) fun G1 g1 Q => .inr ⟨b, 0 - 1, 0, rfl, by decide, by decide, by decide, by decide, by decide, fun G2 g2 => rN_mix rr G2 (g1.trans g2)⟩
      · obtain ⟨c2, t2, a2, b2, i2⟩ := L2'
        refine lam_calD (N := ["_law_a", "_law_bakery"]) (p := "_law_a") (fr := ["_law_bakery"]) (k := 8) (S0 := G) (clo_frz (js := [14]) fz (eG _ _ a2) (eG _ _ b2) rfl (fun y hy e => ndef_free (sc := defScope s_law) (fr := []) (by decide +kernel) y hy e) (ndef_fr (sc := defScope s_law) (by decide +kernel)) rfl) (fz.ex_ _ _ (eG _ _ i2)) (nscope_by (by dsimp only; decide +kernel)) backsX (fun _ _ u s o n ho hs => BindsTo.of_defaults (T := t2) rfl ho hs rfl rfl) (fun vs H Q E q => q.1) fz.ex_
          (cl_none fz (fun y hy e => ndef_free (sc := defScope s_law) (fr := []) (by decide +kernel) y hy e)) (fun A outer s H Q E hr eS x0 q => ?_)
        obtain ⟨_, rr⟩ := q
        refine ⟨_, pe_call (okM_report T hP) (hr.mono (by decide)) (by rfl) T.g_report T.F_report.kp T.b_report .nil (passes_call (takes_of rfl rfl rfl rfl) (fun _ _ _ _ h => h)) (pa_cons (pv 1) (pa_cons pe_int (pa_cons pe_int pa_nil))), ?_⟩
        exact q_rz (ea_cons (ev_var rfl) (ea_cons ev_c (ea_cons ev_c ea_nil))) fun G1 g1 Q => .inr ⟨b, 5, 4, rfl, by decide, by decide, by decide, by decide, by decide, fun G2 g2 => rN_mix rr G2 (g1.trans g2)⟩
      · obtain ⟨c3, t3, a3, b3, i3⟩ := L3
        refine lam_calD (N := ["_law_b", "_law_bakery"]) (p := "_law_b") (fr := ["_law_bakery"]) (k := 8) (S0 := G) (clo_frz (js := [14]) fz (eG _ _ a3) (eG _ _ b3) rfl (fun y hy e => ndef_free (sc := defScope s_law) (fr := []) (by decide +kernel) y hy e) (ndef_fr (sc := defScope s_law) (by decide +kernel)) rfl) (fz.ex_ _ _ (eG _ _ i3)) (nscope_by (by dsimp only; decide +kernel)) backsX (fun _ _ u s o n ho hs => BindsTo.of_defaults (T := t3) rfl ho hs rfl rfl) (fun vs H Q E q => q.1) fz.ex_
          (cl_none fz (fun y hy e => ndef_free (sc := defScope s_law) (fr := []) (by decide +kernel) y hy e)) (fun A outer s H Q E hr eS x0 q => ?_)
        obtain ⟨_, rr⟩ := q
        refine ⟨_, pe_call (okM_report T hP) (hr.mono (by decide)) (by rfl) T.g_report T.F_report.kp T.b_report .nil (passes_call (takes_of rfl rfl rfl rfl) (fun _ _ _ _ h => h)) (pa_cons (pv 1) (pa_cons pe_int (pa_cons pe_int pa_nil))), ?_⟩
        exact q_rz (ea_cons (ev_var rfl) (ea_cons ev_c (ea_cons ev_c ea_nil))) fun G1 g1 Q => .inr ⟨b, 0, 500, rfl, by decide, by decide, by decide, by decide, by decide, fun G2 g2 => rN_mix rr G2 (g1.trans g2)⟩
    · exact s_ret ev_c fun H2 _ => k H2
end Sw
namespace Sw
open PySem PySem.Spec PyProof.Rows L2 Evl
theorem all_mk {l : PySem.W.OpenLaw} {w : World} {K : PySem.W.Frag} {h : Heap} {mg : Str → Option Value} {fa c_Course c_Bakery a_COLUMNS c_LoafError c_InvalidNumber c_InvalidReport f_InvalidReport___init__ ka_InvalidReport___init__ cc_InvalidReport___init__ f_check_number f_join_cells f_split_cells f_first_line f_print_numbers f_parse_line f_check_days f_report f_parse_report f_count_keepable f_Course___init__ f_Course_sales_on f_Course_find_settled f_Course_sum_settled_round f_Course__play_round f_Course__stocks_in f_Course__misses_in f_Course__count_growing f_check_amounts f_check_life f_check_bakery f_Bakery___init__ f_Bakery_bakes pr_Bakery_bakes f_Bakery_sold f_Bakery_missed f_Bakery_thrown f__law_start f__law_drawn f__law_same f__law_outcome f__law_amounts f__law_grouped f__law_line f__law_number f__law_read f__law_changed f_law ka_law tb_law : Addr} (X : K.In h) (G : h.Ns mainGlobals mg) (hfa : mg "law" = some (.ref fa))
    {tk_cv_Bakery_MAX_DAYS : Tok}
    {tk_cv_Bakery_MAX_LIFE : Tok}
    {t_MOST_LOAVES : Tok}
    {t_LAST_DAY : Tok}
    {t_MOST_REPORT_DAYS : Tok}
    {t0_COLUMNS t1_COLUMNS t2_COLUMNS t3_COLUMNS t4_COLUMNS : Addr} {od_COLUMNS : Option Addr} {nn_COLUMNS : Nat} {ol_COLUMNS : Array (Option Value)}
    {od0_COLUMNS : Option Addr} {nn0_COLUMNS : Nat} {ol0_COLUMNS : Array (Option Value)} {ka0_COLUMNS kb0_COLUMNS : Tok}
    {od1_COLUMNS : Option Addr} {nn1_COLUMNS : Nat} {ol1_COLUMNS : Array (Option Value)} {ka1_COLUMNS kb1_COLUMNS : Tok}
    {od2_COLUMNS : Option Addr} {nn2_COLUMNS : Nat} {ol2_COLUMNS : Array (Option Value)} {ka2_COLUMNS kb2_COLUMNS : Tok}
    {od3_COLUMNS : Option Addr} {nn3_COLUMNS : Nat} {ol3_COLUMNS : Array (Option Value)} {ka3_COLUMNS kb3_COLUMNS : Tok}
    {od4_COLUMNS : Option Addr} {nn4_COLUMNS : Nat} {ol4_COLUMNS : Array (Option Value)} {ka4_COLUMNS kb4_COLUMNS : Tok}
    {od_InvalidReport___init__ an_InvalidReport___init__ : Option Addr} {sl_InvalidReport___init__ : Array (Option Value)} {oc_InvalidReport___init__ kV_InvalidReport___init__ dc_InvalidReport___init__ pm_InvalidReport___init__ ct_InvalidReport___init__ : Value}
    {oe_InvalidReport___init__ ol_InvalidReport___init__ : Value} {oo_InvalidReport___init__ om_InvalidReport___init__ : Option Addr} {vc_InvalidReport___init__ : Array Value} {os_InvalidReport___init__ ot_InvalidReport___init__ : Array (Option Value)} {file_InvalidReport___init__ : Str} {tf_InvalidReport___init__ : Tok}
    {nm_InvalidReport q_InvalidReport : Str} {N_InvalidReport : Addr} {bs_InvalidReport bm_InvalidReport : List Value} {sn_InvalidReport : List Str} {sub_InvalidReport : List Value} {ab_InvalidReport : Bool} {col_InvalidReport : Option Bool} {dd_InvalidReport : Option Addr} {m0_InvalidReport m1_InvalidReport m2_InvalidReport m3_InvalidReport m5_InvalidReport : Option Value}
    {od_check_number an_check_number : Option Addr} {sl_check_number : Array (Option Value)} {oc_check_number kV_check_number dc_check_number pm_check_number cd_check_number ct_check_number : Value}
    {od_join_cells an_join_cells : Option Addr} {sl_join_cells : Array (Option Value)} {oc_join_cells kV_join_cells dc_join_cells pm_join_cells cd_join_cells ct_join_cells : Value}
    {od_split_cells an_split_cells : Option Addr} {sl_split_cells : Array (Option Value)} {oc_split_cells kV_split_cells dc_split_cells pm_split_cells cd_split_cells ct_split_cells : Value}
    {od_first_line an_first_line : Option Addr} {sl_first_line : Array (Option Value)} {oc_first_line kV_first_line dc_first_line pm_first_line cd_first_line ct_first_line : Value}
    {od_print_numbers an_print_numbers : Option Addr} {sl_print_numbers : Array (Option Value)} {oc_print_numbers kV_print_numbers dc_print_numbers pm_print_numbers cd_print_numbers ct_print_numbers : Value}
    {od_parse_line an_parse_line : Option Addr} {sl_parse_line : Array (Option Value)} {oc_parse_line kV_parse_line dc_parse_line pm_parse_line cd_parse_line ct_parse_line : Value}
    {od_check_days an_check_days : Option Addr} {sl_check_days : Array (Option Value)} {oc_check_days kV_check_days dc_check_days pm_check_days cd_check_days ct_check_days : Value}
    {od_report an_report : Option Addr} {sl_report : Array (Option Value)} {oc_report kV_report dc_report pm_report cd_report ct_report : Value}
    {od_parse_report an_parse_report : Option Addr} {sl_parse_report : Array (Option Value)} {oc_parse_report kV_parse_report dc_parse_report pm_parse_report cd_parse_report ct_parse_report : Value}
    {od_count_keepable an_count_keepable : Option Addr} {sl_count_keepable : Array (Option Value)} {oc_count_keepable kV_count_keepable dc_count_keepable pm_count_keepable cd_count_keepable ct_count_keepable : Value}
    {od_Course___init__ an_Course___init__ : Option Addr} {sl_Course___init__ : Array (Option Value)} {oc_Course___init__ kV_Course___init__ dc_Course___init__ pm_Course___init__ cd_Course___init__ ct_Course___init__ : Value}
    {od_Course_sales_on an_Course_sales_on : Option Addr} {sl_Course_sales_on : Array (Option Value)} {oc_Course_sales_on kV_Course_sales_on dc_Course_sales_on pm_Course_sales_on cd_Course_sales_on ct_Course_sales_on : Value}
    {od_Course_find_settled an_Course_find_settled : Option Addr} {sl_Course_find_settled : Array (Option Value)} {oc_Course_find_settled kV_Course_find_settled dc_Course_find_settled pm_Course_find_settled cd_Course_find_settled ct_Course_find_settled : Value}
    {od_Course_sum_settled_round an_Course_sum_settled_round : Option Addr} {sl_Course_sum_settled_round : Array (Option Value)} {oc_Course_sum_settled_round kV_Course_sum_settled_round dc_Course_sum_settled_round pm_Course_sum_settled_round cd_Course_sum_settled_round ct_Course_sum_settled_round : Value}
    {od_Course__play_round an_Course__play_round : Option Addr} {sl_Course__play_round : Array (Option Value)} {oc_Course__play_round kV_Course__play_round dc_Course__play_round pm_Course__play_round cd_Course__play_round ct_Course__play_round : Value}
    {od_Course__stocks_in an_Course__stocks_in : Option Addr} {sl_Course__stocks_in : Array (Option Value)} {oc_Course__stocks_in kV_Course__stocks_in dc_Course__stocks_in pm_Course__stocks_in cd_Course__stocks_in ct_Course__stocks_in : Value}
    {od_Course__misses_in an_Course__misses_in : Option Addr} {sl_Course__misses_in : Array (Option Value)} {oc_Course__misses_in kV_Course__misses_in dc_Course__misses_in pm_Course__misses_in cd_Course__misses_in ct_Course__misses_in : Value}
    {od_Course__count_growing an_Course__count_growing : Option Addr} {sl_Course__count_growing : Array (Option Value)} {oc_Course__count_growing kV_Course__count_growing dc_Course__count_growing pm_Course__count_growing cd_Course__count_growing ct_Course__count_growing : Value}
    {od_check_amounts an_check_amounts : Option Addr} {sl_check_amounts : Array (Option Value)} {oc_check_amounts kV_check_amounts dc_check_amounts pm_check_amounts cd_check_amounts ct_check_amounts : Value}
    {od_check_life an_check_life : Option Addr} {sl_check_life : Array (Option Value)} {oc_check_life kV_check_life dc_check_life pm_check_life cd_check_life ct_check_life : Value}
    {od_check_bakery an_check_bakery : Option Addr} {sl_check_bakery : Array (Option Value)} {oc_check_bakery kV_check_bakery dc_check_bakery pm_check_bakery cd_check_bakery ct_check_bakery : Value}
    {od_Bakery___init__ an_Bakery___init__ : Option Addr} {sl_Bakery___init__ : Array (Option Value)} {oc_Bakery___init__ kV_Bakery___init__ dc_Bakery___init__ pm_Bakery___init__ cd_Bakery___init__ ct_Bakery___init__ : Value}
    {od_Bakery_bakes an_Bakery_bakes : Option Addr} {sl_Bakery_bakes : Array (Option Value)} {oc_Bakery_bakes kV_Bakery_bakes dc_Bakery_bakes pm_Bakery_bakes cd_Bakery_bakes ct_Bakery_bakes : Value}
    {rs_Bakery_bakes : List Value}
    {od_Bakery_sold an_Bakery_sold : Option Addr} {sl_Bakery_sold : Array (Option Value)} {oc_Bakery_sold kV_Bakery_sold dc_Bakery_sold pm_Bakery_sold cd_Bakery_sold ct_Bakery_sold : Value}
    {od_Bakery_missed an_Bakery_missed : Option Addr} {sl_Bakery_missed : Array (Option Value)} {oc_Bakery_missed kV_Bakery_missed dc_Bakery_missed pm_Bakery_missed cd_Bakery_missed ct_Bakery_missed : Value}
    {od_Bakery_thrown an_Bakery_thrown : Option Addr} {sl_Bakery_thrown : Array (Option Value)} {oc_Bakery_thrown kV_Bakery_thrown dc_Bakery_thrown pm_Bakery_thrown cd_Bakery_thrown ct_Bakery_thrown : Value}
    {od__law_start an__law_start : Option Addr} {sl__law_start : Array (Option Value)} {oc__law_start kV__law_start dc__law_start pm__law_start cd__law_start ct__law_start : Value}
    {od__law_drawn an__law_drawn : Option Addr} {sl__law_drawn : Array (Option Value)} {oc__law_drawn kV__law_drawn dc__law_drawn pm__law_drawn cd__law_drawn ct__law_drawn : Value}
    {od__law_same an__law_same : Option Addr} {sl__law_same : Array (Option Value)} {oc__law_same kV__law_same dc__law_same pm__law_same cd__law_same ct__law_same : Value}
    {od__law_outcome an__law_outcome : Option Addr} {sl__law_outcome : Array (Option Value)} {oc__law_outcome kV__law_outcome dc__law_outcome pm__law_outcome cd__law_outcome ct__law_outcome : Value}
    {od__law_amounts an__law_amounts : Option Addr} {sl__law_amounts : Array (Option Value)} {oc__law_amounts kV__law_amounts dc__law_amounts pm__law_amounts cd__law_amounts ct__law_amounts : Value}
    {od__law_grouped an__law_grouped : Option Addr} {sl__law_grouped : Array (Option Value)} {oc__law_grouped kV__law_grouped dc__law_grouped pm__law_grouped cd__law_grouped ct__law_grouped : Value}
    {od__law_line an__law_line : Option Addr} {sl__law_line : Array (Option Value)} {oc__law_line kV__law_line dc__law_line pm__law_line cd__law_line ct__law_line : Value}
    {od__law_number an__law_number : Option Addr} {sl__law_number : Array (Option Value)} {oc__law_number kV__law_number dc__law_number pm__law_number cd__law_number ct__law_number : Value}
    {od__law_read an__law_read : Option Addr} {sl__law_read : Array (Option Value)} {oc__law_read kV__law_read dc__law_read pm__law_read cd__law_read ct__law_read : Value}
    {od__law_changed an__law_changed : Option Addr} {sl__law_changed : Array (Option Value)} {oc__law_changed kV__law_changed dc__law_changed pm__law_changed cd__law_changed ct__law_changed : Value}
    {od_law an_law : Option Addr} {sl_law : Array (Option Value)} {oc_law kV_law dc_law pm_law ct_law : Value}
    {oe_law : Value} {oo_law : Option Addr} {vc_law : Array Value} {os_law : Array (Option Value)}
    (g_Course : PySem.W.nsIn K mainGlobals "Course" = some (some (.ref c_Course)))
    (pg_Course : PySem.W.plainGet K c_Course Str.empty = true)
    (hd_Course : PySem.W.hasDictIn K c_Course = true)
    (po_Course : PySem.W.plainOver K c_Course = true)
    (sa_Course : PySem.W.findIn K (.ref c_Course) "__setattr__" = some (some (.builtin "object.__setattr__")))
    (mk_Course : PySem.W.makesIn K c_Course = true)
    (kc_Course : PySem.W.keepIn K (.ref c_Course) = true)
    (g_Bakery : PySem.W.nsIn K mainGlobals "Bakery" = some (some (.ref c_Bakery)))
    (pg_Bakery : PySem.W.plainGet K c_Bakery Str.empty = true)
    (hd_Bakery : PySem.W.hasDictIn K c_Bakery = true)
    (po_Bakery : PySem.W.plainOver K c_Bakery = true)
    (sa_Bakery : PySem.W.findIn K (.ref c_Bakery) "__setattr__" = some (some (.builtin "object.__setattr__")))
    (mk_Bakery : PySem.W.makesIn K c_Bakery = true)
    (kc_Bakery : PySem.W.keepIn K (.ref c_Bakery) = true)
    (na_Course__bakes : PySem.W.findIn K (.ref c_Course) "_bakes" = some none)
    (na_Course__demands : PySem.W.findIn K (.ref c_Course) "_demands" = some none)
    (na_Course__keepable : PySem.W.findIn K (.ref c_Course) "_keepable" = some none)
    (na_Course__gain : PySem.W.findIn K (.ref c_Course) "_gain" = some none)
    (na_Course__first_end : PySem.W.findIn K (.ref c_Course) "_first_end" = some none)
    (na_Course__full_end : PySem.W.findIn K (.ref c_Course) "_full_end" = some none)
    (na_Course__first_misses : PySem.W.findIn K (.ref c_Course) "_first_misses" = some none)
    (na_Course__later_misses : PySem.W.findIn K (.ref c_Course) "_later_misses" = some none)
    (na_Bakery__bakes : PySem.W.findIn K (.ref c_Bakery) "_bakes" = some none)
    (na_Bakery__demands : PySem.W.findIn K (.ref c_Bakery) "_demands" = some none)
    (na_Bakery__life : PySem.W.findIn K (.ref c_Bakery) "_life" = some none)
    (na_Bakery_course : PySem.W.findIn K (.ref c_Bakery) "course" = some none)
    (na_Bakery__settled_day : PySem.W.findIn K (.ref c_Bakery) "_settled_day" = some none)
    (na_Bakery__long_run : PySem.W.findIn K (.ref c_Bakery) "_long_run" = some none)
    (rd_Bakery : PySem.W.readsIn K c_Bakery (.type "type") = true)
    (gt_Bakery : PySem.W.specialIn K (.ref c_Bakery) "__getattribute__" = some (some (.builtin "type.__getattribute__")))
    (cv_Bakery_MAX_DAYS : PySem.W.findCls K (.ref c_Bakery) (.type "type") "MAX_DAYS" = some (.val (.int 24 tk_cv_Bakery_MAX_DAYS)))
    (cv_Bakery_MAX_LIFE : PySem.W.findCls K (.ref c_Bakery) (.type "type") "MAX_LIFE" = some (.val (.int 30 tk_cv_Bakery_MAX_LIFE)))
    (g_MOST_LOAVES : PySem.W.nsIn K mainGlobals "MOST_LOAVES" = some (some (.int 1000000000 t_MOST_LOAVES)))
    (g_LAST_DAY : PySem.W.nsIn K mainGlobals "LAST_DAY" = some (some (.int 1000000000000000000 t_LAST_DAY)))
    (g_MOST_REPORT_DAYS : PySem.W.nsIn K mainGlobals "MOST_REPORT_DAYS" = some (some (.int 500 t_MOST_REPORT_DAYS)))
    (g_COLUMNS : PySem.W.nsIn K mainGlobals "COLUMNS" = some (some (.ref a_COLUMNS)))
    (kc_COLUMNS : K.lookup a_COLUMNS = some ⟨.type "tuple", od_COLUMNS, .seq #[.ref t0_COLUMNS, .ref t1_COLUMNS, .ref t2_COLUMNS, .ref t3_COLUMNS, .ref t4_COLUMNS] nn_COLUMNS, ol_COLUMNS⟩)
    (kc0_COLUMNS : K.lookup t0_COLUMNS = some ⟨.type "tuple", od0_COLUMNS, .seq #[.str (SX.S [100, 97, 121]) ka0_COLUMNS, .int 26 kb0_COLUMNS] nn0_COLUMNS, ol0_COLUMNS⟩)
    (kc1_COLUMNS : K.lookup t1_COLUMNS = some ⟨.type "tuple", od1_COLUMNS, .seq #[.str (SX.S [98, 97, 107, 101, 100]) ka1_COLUMNS, .int 14 kb1_COLUMNS] nn1_COLUMNS, ol1_COLUMNS⟩)
    (kc2_COLUMNS : K.lookup t2_COLUMNS = some ⟨.type "tuple", od2_COLUMNS, .seq #[.str (SX.S [115, 111, 108, 100]) ka2_COLUMNS, .int 14 kb2_COLUMNS] nn2_COLUMNS, ol2_COLUMNS⟩)
    (kc3_COLUMNS : K.lookup t3_COLUMNS = some ⟨.type "tuple", od3_COLUMNS, .seq #[.str (SX.S [109, 105, 115, 115, 101, 100]) ka3_COLUMNS, .int 14 kb3_COLUMNS] nn3_COLUMNS, ol3_COLUMNS⟩)
    (kc4_COLUMNS : K.lookup t4_COLUMNS = some ⟨.type "tuple", od4_COLUMNS, .seq #[.str (SX.S [116, 104, 114, 111, 119, 110]) ka4_COLUMNS, .int 14 kb4_COLUMNS] nn4_COLUMNS, ol4_COLUMNS⟩)
    (b_bool : PySem.W.nsIn K mainGlobals "bool" = some none)
    (b_divmod : PySem.W.nsIn K mainGlobals "divmod" = some none)
    (b_enumerate : PySem.W.nsIn K mainGlobals "enumerate" = some none)
    (b_int : PySem.W.nsIn K mainGlobals "int" = some none)
    (b_isinstance : PySem.W.nsIn K mainGlobals "isinstance" = some none)
    (b_len : PySem.W.nsIn K mainGlobals "len" = some none)
    (b_list : PySem.W.nsIn K mainGlobals "list" = some none)
    (b_max : PySem.W.nsIn K mainGlobals "max" = some none)
    (b_min : PySem.W.nsIn K mainGlobals "min" = some none)
    (b_range : PySem.W.nsIn K mainGlobals "range" = some none)
    (b_str : PySem.W.nsIn K mainGlobals "str" = some none)
    (b_sum : PySem.W.nsIn K mainGlobals "sum" = some none)
    (b_super : PySem.W.nsIn K mainGlobals "super" = some none)
    (b_tuple : PySem.W.nsIn K mainGlobals "tuple" = some none)
    (b_zip : PySem.W.nsIn K mainGlobals "zip" = some none)
    (g_LoafError : PySem.W.nsIn K mainGlobals "LoafError" = some (some (.ref c_LoafError)))
    (g_InvalidNumber : PySem.W.nsIn K mainGlobals "InvalidNumber" = some (some (.ref c_InvalidNumber)))
    (g_InvalidReport : PySem.W.nsIn K mainGlobals "InvalidReport" = some (some (.ref c_InvalidReport)))
    (xe_base : PySem.W.subIn K (.ref c_LoafError) (.type "BaseException") = some true)
    (xe_dict : PySem.W.hasDictIn K c_LoafError = true)
    (xe_type : PySem.W.typeIn K (.ref c_LoafError) = some (.type "type"))
    (xe_any : PySem.W.nsIn K cStatics "thirdparty.any" = some none)
    (xe_top : (l.prog.main.scope.names.lookup ("super" : Str)).isSome = false)
    (xe_cg : PySem.W.specialIn K (.builtin "object.__class__") "__get__" = some (some (.builtin "getset_descriptor.__get__")))
    (xe_ct : PySem.W.takesIn K (.builtin "object.__class__") = some true)
    (xp_InvalidNumber : PySem.W.excIn K c_InvalidNumber [.type "ValueError", .type "Exception", .type "BaseException", .type "object"] "ValueError.__new__" = true)
    (xq_InvalidNumber : PySem.W.keepIn K (.ref c_InvalidNumber) = true)
    (xb_InvalidNumber : PySem.W.subIn K (.ref c_InvalidNumber) (.type "BaseException") = some true)
    (xy_InvalidNumber : PySem.W.typeIn K (.ref c_InvalidNumber) = some (.type "type"))
    (xv_InvalidNumber : PySem.W.kitOne K (.ref c_InvalidNumber) (.type "ValueError") = some true)
    (xk_InvalidNumber_InvalidNumber : PySem.W.kitOne K (.ref c_InvalidNumber) (.ref c_InvalidNumber) = some true)
    (xk_InvalidNumber_InvalidReport : PySem.W.kitOne K (.ref c_InvalidNumber) (.ref c_InvalidReport) = some false)
    (xhd_InvalidNumber : PySem.W.hasDictIn K c_InvalidNumber = true)
    (xic_InvalidNumber : PySem.W.isClsIn K c_InvalidNumber = true)
    (xga_InvalidNumber : PySem.W.findIn K (.ref c_InvalidNumber) "__getattribute__" = some (some (.builtin "BaseException.__getattribute__")))
    (xgg_InvalidNumber : PySem.W.findIn K (.ref c_InvalidNumber) "__getattr__" = some none)
    (xca_InvalidNumber : PySem.W.findIn K (.ref c_InvalidNumber) "__class__" = some (some (.builtin "object.__class__")))
    (xmo_InvalidNumber : PySem.W.mroIn K c_InvalidNumber (.type "object") = some true)
    (sL_InvalidNumber : PySem.W.subIn K (.ref c_InvalidNumber) (.ref c_LoafError) = some true)
    (xL_InvalidReport : K.lookup c_InvalidReport = some (excClassObj nm_InvalidReport q_InvalidReport c_InvalidReport N_InvalidReport bs_InvalidReport bm_InvalidReport true sn_InvalidReport sub_InvalidReport ab_InvalidReport col_InvalidReport dd_InvalidReport m0_InvalidReport m1_InvalidReport m2_InvalidReport m3_InvalidReport m5_InvalidReport "ValueError.__new__"))
    (xr_InvalidReport : PySem.HandSPX.refsVE bm_InvalidReport = true)
    (xsa_InvalidReport : PySem.W.findIn K (.ref c_InvalidReport) "__setattr__" = some (some (.builtin "object.__setattr__")))
    (xkC_InvalidReport : PySem.W.keepIn K (.ref c_InvalidReport) = true)
    (xeC_InvalidReport : PySem.W.subIn K (.ref c_InvalidReport) (.type "BaseException") = some true)
    (xtC_InvalidReport : PySem.W.typeIn K (.ref c_InvalidReport) = some (.type "type"))
    (xhd_InvalidReport : PySem.W.hasDictIn K c_InvalidReport = true)
    (xic_InvalidReport : PySem.W.isClsIn K c_InvalidReport = true)
    (xga_InvalidReport : PySem.W.findIn K (.ref c_InvalidReport) "__getattribute__" = some (some (.builtin "BaseException.__getattribute__")))
    (xgg_InvalidReport : PySem.W.findIn K (.ref c_InvalidReport) "__getattr__" = some none)
    (xca_InvalidReport : PySem.W.findIn K (.ref c_InvalidReport) "__class__" = some (some (.builtin "object.__class__")))
    (xmo_InvalidReport : PySem.W.mroIn K c_InvalidReport (.type "object") = some true)
    (xi_InvalidReport : PySem.W.findIn K (.ref c_InvalidReport) "__init__" = some (some (.ref f_InvalidReport___init__)))
    (xt_InvalidReport : PySem.W.typeIn K (.ref f_InvalidReport___init__) = some (.type "function"))
    (l_InvalidReport___init__ : K.lookup f_InvalidReport___init__ = some ⟨oc_InvalidReport___init__, od_InvalidReport___init__, .func (PySem.W.ksFn "__init__" "InvalidReport.__init__" (defArgs s_InvalidReport___init__) (defBody s_InvalidReport___init__) (defScope s_InvalidReport___init__) .none kV_InvalidReport___init__ dc_InvalidReport___init__ pm_InvalidReport___init__ an_InvalidReport___init__ (.ref ka_InvalidReport___init__) ct_InvalidReport___init__ cc_InvalidReport___init__), sl_InvalidReport___init__⟩)
    (q_InvalidReport___init__ : PySem.W.codeIn K (.ref ka_InvalidReport___init__) "InvalidReport.__init__" = true)
    (lk_InvalidReport___init__ : K.lookup ka_InvalidReport___init__ = some ⟨oe_InvalidReport___init__, oo_InvalidReport___init__, .fields vc_InvalidReport___init__, os_InvalidReport___init__⟩)
    (vf_InvalidReport___init__ : vc_InvalidReport___init__[2]? = some (.str file_InvalidReport___init__ tf_InvalidReport___init__))
    (fi_InvalidReport___init__ : ((l.prog.main.file : Str) == file_InvalidReport___init__) = true)
    (ce_InvalidReport___init__ : K.lookup cc_InvalidReport___init__ = some ⟨ol_InvalidReport___init__, om_InvalidReport___init__, .cell (some (.ref c_InvalidReport)), ot_InvalidReport___init__⟩)
    (su_InvalidReport___init__ : PySem.W.ks_superIn K c_InvalidReport c_InvalidReport "__init__" = some (some (.builtin "ValueError.__init__")))
    (sb_InvalidReport___init__ : PySem.W.mroIn K c_InvalidReport (.ref c_InvalidReport) = some true)
    (sv_InvalidReport___init__ : PySem.W.subIn K (.ref c_InvalidReport) (.type "ValueError") = some true)
    (sL_InvalidReport___init__ : PySem.W.subIn K (.ref c_InvalidReport) (.ref c_LoafError) = some true)
    (xv_InvalidReport : PySem.W.kitOne K (.ref c_InvalidReport) (.type "ValueError") = some true)
    (xk_InvalidReport_InvalidNumber : PySem.W.kitOne K (.ref c_InvalidReport) (.ref c_InvalidNumber) = some false)
    (xk_InvalidReport_InvalidReport : PySem.W.kitOne K (.ref c_InvalidReport) (.ref c_InvalidReport) = some true)
    (na_InvalidReport_row : PySem.W.findIn K (.ref c_InvalidReport) "row" = some none)
    (eb_InvalidNumber : PySem.W.subIn K (.ref c_InvalidNumber) (.type "BaseException") = some true)
    (ed_InvalidNumber : PySem.W.hasDictIn K c_InvalidNumber = true)
    (et_InvalidNumber : PySem.W.typeIn K (.ref c_InvalidNumber) = some (.type "type"))
    (eb_InvalidReport : PySem.W.subIn K (.ref c_InvalidReport) (.type "BaseException") = some true)
    (ed_InvalidReport : PySem.W.hasDictIn K c_InvalidReport = true)
    (et_InvalidReport : PySem.W.typeIn K (.ref c_InvalidReport) = some (.type "type"))
    (es_InvalidNumber_InvalidNumber : PySem.W.subIn K (.ref c_InvalidNumber) (.ref c_InvalidNumber) = some true)
    (es_InvalidReport_InvalidNumber : PySem.W.subIn K (.ref c_InvalidReport) (.ref c_InvalidNumber) = some false)
    (es_InvalidReport_InvalidReport : PySem.W.subIn K (.ref c_InvalidReport) (.ref c_InvalidReport) = some true)
    (a_check_number : PySem.W.nsIn K mainGlobals "check_number" = some (some (.ref f_check_number)))
    (l_check_number : K.lookup f_check_number = some ⟨oc_check_number, od_check_number, .func (PySem.W.fnOf "check_number" "check_number" (defArgs s_check_number) (defBody s_check_number) (defScope s_check_number) .none kV_check_number dc_check_number pm_check_number an_check_number cd_check_number ct_check_number), sl_check_number⟩)
    (q_check_number : PySem.W.codeIn K cd_check_number "check_number" = true)
    (k_check_number : PySem.W.keepIn K (.ref f_check_number) = true)
    (a_join_cells : PySem.W.nsIn K mainGlobals "join_cells" = some (some (.ref f_join_cells)))
    (l_join_cells : K.lookup f_join_cells = some ⟨oc_join_cells, od_join_cells, .func (PySem.W.fnOf "join_cells" "join_cells" (defArgs s_join_cells) (defBody s_join_cells) (defScope s_join_cells) .none kV_join_cells dc_join_cells pm_join_cells an_join_cells cd_join_cells ct_join_cells), sl_join_cells⟩)
    (q_join_cells : PySem.W.codeIn K cd_join_cells "join_cells" = true)
    (k_join_cells : PySem.W.keepIn K (.ref f_join_cells) = true)
    (a_split_cells : PySem.W.nsIn K mainGlobals "split_cells" = some (some (.ref f_split_cells)))
    (l_split_cells : K.lookup f_split_cells = some ⟨oc_split_cells, od_split_cells, .func (PySem.W.fnOf "split_cells" "split_cells" (defArgs s_split_cells) (defBody s_split_cells) (defScope s_split_cells) .none kV_split_cells dc_split_cells pm_split_cells an_split_cells cd_split_cells ct_split_cells), sl_split_cells⟩)
    (q_split_cells : PySem.W.codeIn K cd_split_cells "split_cells" = true)
    (k_split_cells : PySem.W.keepIn K (.ref f_split_cells) = true)
    (a_first_line : PySem.W.nsIn K mainGlobals "first_line" = some (some (.ref f_first_line)))
    (l_first_line : K.lookup f_first_line = some ⟨oc_first_line, od_first_line, .func (PySem.W.fnOf "first_line" "first_line" (defArgs s_first_line) (defBody s_first_line) (defScope s_first_line) .none kV_first_line dc_first_line pm_first_line an_first_line cd_first_line ct_first_line), sl_first_line⟩)
    (q_first_line : PySem.W.codeIn K cd_first_line "first_line" = true)
    (k_first_line : PySem.W.keepIn K (.ref f_first_line) = true)
    (a_print_numbers : PySem.W.nsIn K mainGlobals "print_numbers" = some (some (.ref f_print_numbers)))
    (l_print_numbers : K.lookup f_print_numbers = some ⟨oc_print_numbers, od_print_numbers, .func (PySem.W.fnOf "print_numbers" "print_numbers" (defArgs s_print_numbers) (defBody s_print_numbers) (defScope s_print_numbers) .none kV_print_numbers dc_print_numbers pm_print_numbers an_print_numbers cd_print_numbers ct_print_numbers), sl_print_numbers⟩)
    (q_print_numbers : PySem.W.codeIn K cd_print_numbers "print_numbers" = true)
    (k_print_numbers : PySem.W.keepIn K (.ref f_print_numbers) = true)
    (a_parse_line : PySem.W.nsIn K mainGlobals "parse_line" = some (some (.ref f_parse_line)))
    (l_parse_line : K.lookup f_parse_line = some ⟨oc_parse_line, od_parse_line, .func (PySem.W.fnOf "parse_line" "parse_line" (defArgs s_parse_line) (defBody s_parse_line) (defScope s_parse_line) .none kV_parse_line dc_parse_line pm_parse_line an_parse_line cd_parse_line ct_parse_line), sl_parse_line⟩)
    (q_parse_line : PySem.W.codeIn K cd_parse_line "parse_line" = true)
    (k_parse_line : PySem.W.keepIn K (.ref f_parse_line) = true)
    (a_check_days : PySem.W.nsIn K mainGlobals "check_days" = some (some (.ref f_check_days)))
    (l_check_days : K.lookup f_check_days = some ⟨oc_check_days, od_check_days, .func (PySem.W.fnOf "check_days" "check_days" (defArgs s_check_days) (defBody s_check_days) (defScope s_check_days) .none kV_check_days dc_check_days pm_check_days an_check_days cd_check_days ct_check_days), sl_check_days⟩)
    (q_check_days : PySem.W.codeIn K cd_check_days "check_days" = true)
    (k_check_days : PySem.W.keepIn K (.ref f_check_days) = true)
    (a_report : PySem.W.nsIn K mainGlobals "report" = some (some (.ref f_report)))
    (l_report : K.lookup f_report = some ⟨oc_report, od_report, .func (PySem.W.fnOf "report" "report" (defArgs s_report) (defBody s_report) (defScope s_report) .none kV_report dc_report pm_report an_report cd_report ct_report), sl_report⟩)
    (q_report : PySem.W.codeIn K cd_report "report" = true)
    (k_report : PySem.W.keepIn K (.ref f_report) = true)
    (a_parse_report : PySem.W.nsIn K mainGlobals "parse_report" = some (some (.ref f_parse_report)))
    (l_parse_report : K.lookup f_parse_report = some ⟨oc_parse_report, od_parse_report, .func (PySem.W.fnOf "parse_report" "parse_report" (defArgs s_parse_report) (defBody s_parse_report) (defScope s_parse_report) .none kV_parse_report dc_parse_report pm_parse_report an_parse_report cd_parse_report ct_parse_report), sl_parse_report⟩)
    (q_parse_report : PySem.W.codeIn K cd_parse_report "parse_report" = true)
    (k_parse_report : PySem.W.keepIn K (.ref f_parse_report) = true)
    (a_count_keepable : PySem.W.nsIn K mainGlobals "count_keepable" = some (some (.ref f_count_keepable)))
    (l_count_keepable : K.lookup f_count_keepable = some ⟨oc_count_keepable, od_count_keepable, .func (PySem.W.fnOf "count_keepable" "count_keepable" (defArgs s_count_keepable) (defBody s_count_keepable) (defScope s_count_keepable) .none kV_count_keepable dc_count_keepable pm_count_keepable an_count_keepable cd_count_keepable ct_count_keepable), sl_count_keepable⟩)
    (q_count_keepable : PySem.W.codeIn K cd_count_keepable "count_keepable" = true)
    (k_count_keepable : PySem.W.keepIn K (.ref f_count_keepable) = true)
    (a_Course___init__ : PySem.W.findIn K (.ref c_Course) "__init__" = some (some (.ref f_Course___init__)))
    (i_Course___init__ : PySem.W.isFn K (.ref f_Course___init__) = true)
    (l_Course___init__ : K.lookup f_Course___init__ = some ⟨oc_Course___init__, od_Course___init__, .func (PySem.W.fnOf "__init__" "Course.__init__" (defArgs s_Course___init__) (defBody s_Course___init__) (defScope s_Course___init__) .none kV_Course___init__ dc_Course___init__ pm_Course___init__ an_Course___init__ cd_Course___init__ ct_Course___init__), sl_Course___init__⟩)
    (q_Course___init__ : PySem.W.codeIn K cd_Course___init__ "Course.__init__" = true)
    (k_Course___init__ : PySem.W.keepIn K (.ref f_Course___init__) = true)
    (a_Course_sales_on : PySem.W.findIn K (.ref c_Course) "sales_on" = some (some (.ref f_Course_sales_on)))
    (i_Course_sales_on : PySem.W.isFn K (.ref f_Course_sales_on) = true)
    (l_Course_sales_on : K.lookup f_Course_sales_on = some ⟨oc_Course_sales_on, od_Course_sales_on, .func (PySem.W.fnOf "sales_on" "Course.sales_on" (defArgs s_Course_sales_on) (defBody s_Course_sales_on) (defScope s_Course_sales_on) .none kV_Course_sales_on dc_Course_sales_on pm_Course_sales_on an_Course_sales_on cd_Course_sales_on ct_Course_sales_on), sl_Course_sales_on⟩)
    (q_Course_sales_on : PySem.W.codeIn K cd_Course_sales_on "Course.sales_on" = true)
    (k_Course_sales_on : PySem.W.keepIn K (.ref f_Course_sales_on) = true)
    (a_Course_find_settled : PySem.W.findIn K (.ref c_Course) "find_settled" = some (some (.ref f_Course_find_settled)))
    (i_Course_find_settled : PySem.W.isFn K (.ref f_Course_find_settled) = true)
    (l_Course_find_settled : K.lookup f_Course_find_settled = some ⟨oc_Course_find_settled, od_Course_find_settled, .func (PySem.W.fnOf "find_settled" "Course.find_settled" (defArgs s_Course_find_settled) (defBody s_Course_find_settled) (defScope s_Course_find_settled) .none kV_Course_find_settled dc_Course_find_settled pm_Course_find_settled an_Course_find_settled cd_Course_find_settled ct_Course_find_settled), sl_Course_find_settled⟩)
    (q_Course_find_settled : PySem.W.codeIn K cd_Course_find_settled "Course.find_settled" = true)
    (k_Course_find_settled : PySem.W.keepIn K (.ref f_Course_find_settled) = true)
    (a_Course_sum_settled_round : PySem.W.findIn K (.ref c_Course) "sum_settled_round" = some (some (.ref f_Course_sum_settled_round)))
    (i_Course_sum_settled_round : PySem.W.isFn K (.ref f_Course_sum_settled_round) = true)
    (l_Course_sum_settled_round : K.lookup f_Course_sum_settled_round = some ⟨oc_Course_sum_settled_round, od_Course_sum_settled_round, .func (PySem.W.fnOf "sum_settled_round" "Course.sum_settled_round" (defArgs s_Course_sum_settled_round) (defBody s_Course_sum_settled_round) (defScope s_Course_sum_settled_round) .none kV_Course_sum_settled_round dc_Course_sum_settled_round pm_Course_sum_settled_round an_Course_sum_settled_round cd_Course_sum_settled_round ct_Course_sum_settled_round), sl_Course_sum_settled_round⟩)
    (q_Course_sum_settled_round : PySem.W.codeIn K cd_Course_sum_settled_round "Course.sum_settled_round" = true)
    (k_Course_sum_settled_round : PySem.W.keepIn K (.ref f_Course_sum_settled_round) = true)
    (a_Course__play_round : PySem.W.findIn K (.ref c_Course) "_play_round" = some (some (.ref f_Course__play_round)))
    (i_Course__play_round : PySem.W.isFn K (.ref f_Course__play_round) = true)
    (l_Course__play_round : K.lookup f_Course__play_round = some ⟨oc_Course__play_round, od_Course__play_round, .func (PySem.W.fnOf "_play_round" "Course._play_round" (defArgs s_Course__play_round) (defBody s_Course__play_round) (defScope s_Course__play_round) .none kV_Course__play_round dc_Course__play_round pm_Course__play_round an_Course__play_round cd_Course__play_round ct_Course__play_round), sl_Course__play_round⟩)
    (q_Course__play_round : PySem.W.codeIn K cd_Course__play_round "Course._play_round" = true)
    (k_Course__play_round : PySem.W.keepIn K (.ref f_Course__play_round) = true)
    (a_Course__stocks_in : PySem.W.findIn K (.ref c_Course) "_stocks_in" = some (some (.ref f_Course__stocks_in)))
    (i_Course__stocks_in : PySem.W.isFn K (.ref f_Course__stocks_in) = true)
    (l_Course__stocks_in : K.lookup f_Course__stocks_in = some ⟨oc_Course__stocks_in, od_Course__stocks_in, .func (PySem.W.fnOf "_stocks_in" "Course._stocks_in" (defArgs s_Course__stocks_in) (defBody s_Course__stocks_in) (defScope s_Course__stocks_in) .none kV_Course__stocks_in dc_Course__stocks_in pm_Course__stocks_in an_Course__stocks_in cd_Course__stocks_in ct_Course__stocks_in), sl_Course__stocks_in⟩)
    (q_Course__stocks_in : PySem.W.codeIn K cd_Course__stocks_in "Course._stocks_in" = true)
    (k_Course__stocks_in : PySem.W.keepIn K (.ref f_Course__stocks_in) = true)
    (a_Course__misses_in : PySem.W.findIn K (.ref c_Course) "_misses_in" = some (some (.ref f_Course__misses_in)))
    (i_Course__misses_in : PySem.W.isFn K (.ref f_Course__misses_in) = true)
    (l_Course__misses_in : K.lookup f_Course__misses_in = some ⟨oc_Course__misses_in, od_Course__misses_in, .func (PySem.W.fnOf "_misses_in" "Course._misses_in" (defArgs s_Course__misses_in) (defBody s_Course__misses_in) (defScope s_Course__misses_in) .none kV_Course__misses_in dc_Course__misses_in pm_Course__misses_in an_Course__misses_in cd_Course__misses_in ct_Course__misses_in), sl_Course__misses_in⟩)
    (q_Course__misses_in : PySem.W.codeIn K cd_Course__misses_in "Course._misses_in" = true)
    (k_Course__misses_in : PySem.W.keepIn K (.ref f_Course__misses_in) = true)
    (a_Course__count_growing : PySem.W.findIn K (.ref c_Course) "_count_growing" = some (some (.ref f_Course__count_growing)))
    (i_Course__count_growing : PySem.W.isFn K (.ref f_Course__count_growing) = true)
    (l_Course__count_growing : K.lookup f_Course__count_growing = some ⟨oc_Course__count_growing, od_Course__count_growing, .func (PySem.W.fnOf "_count_growing" "Course._count_growing" (defArgs s_Course__count_growing) (defBody s_Course__count_growing) (defScope s_Course__count_growing) .none kV_Course__count_growing dc_Course__count_growing pm_Course__count_growing an_Course__count_growing cd_Course__count_growing ct_Course__count_growing), sl_Course__count_growing⟩)
    (q_Course__count_growing : PySem.W.codeIn K cd_Course__count_growing "Course._count_growing" = true)
    (k_Course__count_growing : PySem.W.keepIn K (.ref f_Course__count_growing) = true)
    (a_check_amounts : PySem.W.nsIn K mainGlobals "check_amounts" = some (some (.ref f_check_amounts)))
    (l_check_amounts : K.lookup f_check_amounts = some ⟨oc_check_amounts, od_check_amounts, .func (PySem.W.fnOf "check_amounts" "check_amounts" (defArgs s_check_amounts) (defBody s_check_amounts) (defScope s_check_amounts) .none kV_check_amounts dc_check_amounts pm_check_amounts an_check_amounts cd_check_amounts ct_check_amounts), sl_check_amounts⟩)
    (q_check_amounts : PySem.W.codeIn K cd_check_amounts "check_amounts" = true)
    (k_check_amounts : PySem.W.keepIn K (.ref f_check_amounts) = true)
    (a_check_life : PySem.W.nsIn K mainGlobals "check_life" = some (some (.ref f_check_life)))
    (l_check_life : K.lookup f_check_life = some ⟨oc_check_life, od_check_life, .func (PySem.W.fnOf "check_life" "check_life" (defArgs s_check_life) (defBody s_check_life) (defScope s_check_life) .none kV_check_life dc_check_life pm_check_life an_check_life cd_check_life ct_check_life), sl_check_life⟩)
    (q_check_life : PySem.W.codeIn K cd_check_life "check_life" = true)
    (k_check_life : PySem.W.keepIn K (.ref f_check_life) = true)
    (a_check_bakery : PySem.W.nsIn K mainGlobals "check_bakery" = some (some (.ref f_check_bakery)))
    (l_check_bakery : K.lookup f_check_bakery = some ⟨oc_check_bakery, od_check_bakery, .func (PySem.W.fnOf "check_bakery" "check_bakery" (defArgs s_check_bakery) (defBody s_check_bakery) (defScope s_check_bakery) .none kV_check_bakery dc_check_bakery pm_check_bakery an_check_bakery cd_check_bakery ct_check_bakery), sl_check_bakery⟩)
    (q_check_bakery : PySem.W.codeIn K cd_check_bakery "check_bakery" = true)
    (k_check_bakery : PySem.W.keepIn K (.ref f_check_bakery) = true)
    (a_Bakery___init__ : PySem.W.findIn K (.ref c_Bakery) "__init__" = some (some (.ref f_Bakery___init__)))
    (i_Bakery___init__ : PySem.W.isFn K (.ref f_Bakery___init__) = true)
    (l_Bakery___init__ : K.lookup f_Bakery___init__ = some ⟨oc_Bakery___init__, od_Bakery___init__, .func (PySem.W.fnOf "__init__" "Bakery.__init__" (defArgs s_Bakery___init__) (defBody s_Bakery___init__) (defScope s_Bakery___init__) .none kV_Bakery___init__ dc_Bakery___init__ pm_Bakery___init__ an_Bakery___init__ cd_Bakery___init__ ct_Bakery___init__), sl_Bakery___init__⟩)
    (q_Bakery___init__ : PySem.W.codeIn K cd_Bakery___init__ "Bakery.__init__" = true)
    (k_Bakery___init__ : PySem.W.keepIn K (.ref f_Bakery___init__) = true)
    (a_Bakery_bakes : PySem.W.findIn K (.ref c_Bakery) "bakes" = some (some (.ref pr_Bakery_bakes)))
    (pg_Bakery_bakes : PySem.W.specialIn K (.ref pr_Bakery_bakes) "__get__" = some (some (.builtin "property.__get__")))
    (pt_Bakery_bakes : PySem.W.takesIn K (.ref pr_Bakery_bakes) = some true)
    (pr1_Bakery_bakes : PySem.W.recIn K pr_Bakery_bakes "property" = some (.ref f_Bakery_bakes :: rs_Bakery_bakes))
    (l_Bakery_bakes : K.lookup f_Bakery_bakes = some ⟨oc_Bakery_bakes, od_Bakery_bakes, .func (PySem.W.fnOf "bakes" "Bakery.bakes" (defArgs s_Bakery_bakes) (defBody s_Bakery_bakes) (defScope s_Bakery_bakes) .none kV_Bakery_bakes dc_Bakery_bakes pm_Bakery_bakes an_Bakery_bakes cd_Bakery_bakes ct_Bakery_bakes), sl_Bakery_bakes⟩)
    (q_Bakery_bakes : PySem.W.codeIn K cd_Bakery_bakes "Bakery.bakes" = true)
    (k_Bakery_bakes : PySem.W.keepIn K (.ref f_Bakery_bakes) = true)
    (a_Bakery_sold : PySem.W.findIn K (.ref c_Bakery) "sold" = some (some (.ref f_Bakery_sold)))
    (i_Bakery_sold : PySem.W.isFn K (.ref f_Bakery_sold) = true)
    (l_Bakery_sold : K.lookup f_Bakery_sold = some ⟨oc_Bakery_sold, od_Bakery_sold, .func (PySem.W.fnOf "sold" "Bakery.sold" (defArgs s_Bakery_sold) (defBody s_Bakery_sold) (defScope s_Bakery_sold) .none kV_Bakery_sold dc_Bakery_sold pm_Bakery_sold an_Bakery_sold cd_Bakery_sold ct_Bakery_sold), sl_Bakery_sold⟩)
    (q_Bakery_sold : PySem.W.codeIn K cd_Bakery_sold "Bakery.sold" = true)
    (k_Bakery_sold : PySem.W.keepIn K (.ref f_Bakery_sold) = true)
    (a_Bakery_missed : PySem.W.findIn K (.ref c_Bakery) "missed" = some (some (.ref f_Bakery_missed)))
    (i_Bakery_missed : PySem.W.isFn K (.ref f_Bakery_missed) = true)
    (l_Bakery_missed : K.lookup f_Bakery_missed = some ⟨oc_Bakery_missed, od_Bakery_missed, .func (PySem.W.fnOf "missed" "Bakery.missed" (defArgs s_Bakery_missed) (defBody s_Bakery_missed) (defScope s_Bakery_missed) .none kV_Bakery_missed dc_Bakery_missed pm_Bakery_missed an_Bakery_missed cd_Bakery_missed ct_Bakery_missed), sl_Bakery_missed⟩)
    (q_Bakery_missed : PySem.W.codeIn K cd_Bakery_missed "Bakery.missed" = true)
    (k_Bakery_missed : PySem.W.keepIn K (.ref f_Bakery_missed) = true)
    (a_Bakery_thrown : PySem.W.findIn K (.ref c_Bakery) "thrown" = some (some (.ref f_Bakery_thrown)))
    (i_Bakery_thrown : PySem.W.isFn K (.ref f_Bakery_thrown) = true)
    (l_Bakery_thrown : K.lookup f_Bakery_thrown = some ⟨oc_Bakery_thrown, od_Bakery_thrown, .func (PySem.W.fnOf "thrown" "Bakery.thrown" (defArgs s_Bakery_thrown) (defBody s_Bakery_thrown) (defScope s_Bakery_thrown) .none kV_Bakery_thrown dc_Bakery_thrown pm_Bakery_thrown an_Bakery_thrown cd_Bakery_thrown ct_Bakery_thrown), sl_Bakery_thrown⟩)
    (q_Bakery_thrown : PySem.W.codeIn K cd_Bakery_thrown "Bakery.thrown" = true)
    (k_Bakery_thrown : PySem.W.keepIn K (.ref f_Bakery_thrown) = true)
    (a__law_start : PySem.W.nsIn K mainGlobals "_law_start" = some (some (.ref f__law_start)))
    (l__law_start : K.lookup f__law_start = some ⟨oc__law_start, od__law_start, .func (PySem.W.fnOf "_law_start" "_law_start" (defArgs s__law_start) (defBody s__law_start) (defScope s__law_start) .none kV__law_start dc__law_start pm__law_start an__law_start cd__law_start ct__law_start), sl__law_start⟩)
    (q__law_start : PySem.W.codeIn K cd__law_start "_law_start" = true)
    (k__law_start : PySem.W.keepIn K (.ref f__law_start) = true)
    (a__law_drawn : PySem.W.nsIn K mainGlobals "_law_drawn" = some (some (.ref f__law_drawn)))
    (l__law_drawn : K.lookup f__law_drawn = some ⟨oc__law_drawn, od__law_drawn, .func (PySem.W.fnOf "_law_drawn" "_law_drawn" (defArgs s__law_drawn) (defBody s__law_drawn) (defScope s__law_drawn) .none kV__law_drawn dc__law_drawn pm__law_drawn an__law_drawn cd__law_drawn ct__law_drawn), sl__law_drawn⟩)
    (q__law_drawn : PySem.W.codeIn K cd__law_drawn "_law_drawn" = true)
    (k__law_drawn : PySem.W.keepIn K (.ref f__law_drawn) = true)
    (a__law_same : PySem.W.nsIn K mainGlobals "_law_same" = some (some (.ref f__law_same)))
    (l__law_same : K.lookup f__law_same = some ⟨oc__law_same, od__law_same, .func (PySem.W.fnOf "_law_same" "_law_same" (defArgs s__law_same) (defBody s__law_same) (defScope s__law_same) .none kV__law_same dc__law_same pm__law_same an__law_same cd__law_same ct__law_same), sl__law_same⟩)
    (q__law_same : PySem.W.codeIn K cd__law_same "_law_same" = true)
    (k__law_same : PySem.W.keepIn K (.ref f__law_same) = true)
    (a__law_outcome : PySem.W.nsIn K mainGlobals "_law_outcome" = some (some (.ref f__law_outcome)))
    (l__law_outcome : K.lookup f__law_outcome = some ⟨oc__law_outcome, od__law_outcome, .func (PySem.W.fnOf "_law_outcome" "_law_outcome" (defArgs s__law_outcome) (defBody s__law_outcome) (defScope s__law_outcome) .none kV__law_outcome dc__law_outcome pm__law_outcome an__law_outcome cd__law_outcome ct__law_outcome), sl__law_outcome⟩)
    (q__law_outcome : PySem.W.codeIn K cd__law_outcome "_law_outcome" = true)
    (k__law_outcome : PySem.W.keepIn K (.ref f__law_outcome) = true)
    (a__law_amounts : PySem.W.nsIn K mainGlobals "_law_amounts" = some (some (.ref f__law_amounts)))
    (l__law_amounts : K.lookup f__law_amounts = some ⟨oc__law_amounts, od__law_amounts, .func (PySem.W.fnOf "_law_amounts" "_law_amounts" (defArgs s__law_amounts) (defBody s__law_amounts) (defScope s__law_amounts) .none kV__law_amounts dc__law_amounts pm__law_amounts an__law_amounts cd__law_amounts ct__law_amounts), sl__law_amounts⟩)
    (q__law_amounts : PySem.W.codeIn K cd__law_amounts "_law_amounts" = true)
    (k__law_amounts : PySem.W.keepIn K (.ref f__law_amounts) = true)
    (a__law_grouped : PySem.W.nsIn K mainGlobals "_law_grouped" = some (some (.ref f__law_grouped)))
    (l__law_grouped : K.lookup f__law_grouped = some ⟨oc__law_grouped, od__law_grouped, .func (PySem.W.fnOf "_law_grouped" "_law_grouped" (defArgs s__law_grouped) (defBody s__law_grouped) (defScope s__law_grouped) .none kV__law_grouped dc__law_grouped pm__law_grouped an__law_grouped cd__law_grouped ct__law_grouped), sl__law_grouped⟩)
    (q__law_grouped : PySem.W.codeIn K cd__law_grouped "_law_grouped" = true)
    (k__law_grouped : PySem.W.keepIn K (.ref f__law_grouped) = true)
    (a__law_line : PySem.W.nsIn K mainGlobals "_law_line" = some (some (.ref f__law_line)))
    (l__law_line : K.lookup f__law_line = some ⟨oc__law_line, od__law_line, .func (PySem.W.fnOf "_law_line" "_law_line" (defArgs s__law_line) (defBody s__law_line) (defScope s__law_line) .none kV__law_line dc__law_line pm__law_line an__law_line cd__law_line ct__law_line), sl__law_line⟩)
    (q__law_line : PySem.W.codeIn K cd__law_line "_law_line" = true)
    (k__law_line : PySem.W.keepIn K (.ref f__law_line) = true)
    (a__law_number : PySem.W.nsIn K mainGlobals "_law_number" = some (some (.ref f__law_number)))
    (l__law_number : K.lookup f__law_number = some ⟨oc__law_number, od__law_number, .func (PySem.W.fnOf "_law_number" "_law_number" (defArgs s__law_number) (defBody s__law_number) (defScope s__law_number) .none kV__law_number dc__law_number pm__law_number an__law_number cd__law_number ct__law_number), sl__law_number⟩)
    (q__law_number : PySem.W.codeIn K cd__law_number "_law_number" = true)
    (k__law_number : PySem.W.keepIn K (.ref f__law_number) = true)
    (a__law_read : PySem.W.nsIn K mainGlobals "_law_read" = some (some (.ref f__law_read)))
    (l__law_read : K.lookup f__law_read = some ⟨oc__law_read, od__law_read, .func (PySem.W.fnOf "_law_read" "_law_read" (defArgs s__law_read) (defBody s__law_read) (defScope s__law_read) .none kV__law_read dc__law_read pm__law_read an__law_read cd__law_read ct__law_read), sl__law_read⟩)
    (q__law_read : PySem.W.codeIn K cd__law_read "_law_read" = true)
    (k__law_read : PySem.W.keepIn K (.ref f__law_read) = true)
    (a__law_changed : PySem.W.nsIn K mainGlobals "_law_changed" = some (some (.ref f__law_changed)))
    (l__law_changed : K.lookup f__law_changed = some ⟨oc__law_changed, od__law_changed, .func (PySem.W.fnOf "_law_changed" "_law_changed" (defArgs s__law_changed) (defBody s__law_changed) (defScope s__law_changed) .none kV__law_changed dc__law_changed pm__law_changed an__law_changed cd__law_changed ct__law_changed), sl__law_changed⟩)
    (q__law_changed : PySem.W.codeIn K cd__law_changed "_law_changed" = true)
    (k__law_changed : PySem.W.keepIn K (.ref f__law_changed) = true)
    (a_law : PySem.W.nsIn K mainGlobals "law" = some (some (.ref f_law)))
    (l_law : K.lookup f_law = some ⟨oc_law, od_law, .func (PySem.W.fnOf "law" "law" (defArgs s_law) (defBody s_law) (defScope s_law) .none kV_law dc_law pm_law an_law (.ref ka_law) ct_law), sl_law⟩)
    (q_law : PySem.W.codeIn K (.ref ka_law) "law" = true)
    (lc_law : K.lookup ka_law = some ⟨oe_law, oo_law, .fields vc_law, os_law⟩)
    (he_law : vc_law[11]? = some (.ref tb_law))
    (ch_law : PySem.W.codeHdIn K ka_law tb_law = true)
    (nt_law : K.lookup tb_law = none)
    (ht_law : h.get? tb_law = some { cls := .none, data := .fields #[] })
    (k_law : PySem.W.keepIn K (.ref f_law) = true) :
    LamX.LawAtS l w K L2.CX0 11 63 "_law_script" mg fa h := by
  have e := hfa.symm.trans (PySem.W.mg_of X G a_law)
  cases e
  have B_InvalidReport___init__ : Binds K (PySem.W.ksFn "__init__" "InvalidReport.__init__" (defArgs s_InvalidReport___init__) (defBody s_InvalidReport___init__) (defScope s_InvalidReport___init__) .none kV_InvalidReport___init__ dc_InvalidReport___init__ pm_InvalidReport___init__ an_InvalidReport___init__ (.ref ka_InvalidReport___init__) ct_InvalidReport___init__ cc_InvalidReport___init__) p_InvalidReport___init__ [] := Binds.all fun us hl => match us, hl with | [_, _], _ => rfl
  have F_check_number := fun_mk (st := s_check_number) l_check_number q_check_number k_check_number
  have B_check_number := F_check_number.binds (ps := p_check_number) fun _ _ _ _ _ _ us hl => match us, hl with | [_, _, _], _ => rfl
  have F_join_cells := fun_mk (st := s_join_cells) l_join_cells q_join_cells k_join_cells
  have B_join_cells := F_join_cells.binds (ps := p_join_cells) fun _ _ _ _ _ _ us hl => match us, hl with | [_], _ => rfl
  have F_split_cells := fun_mk (st := s_split_cells) l_split_cells q_split_cells k_split_cells
  have B_split_cells := F_split_cells.binds (ps := p_split_cells) fun _ _ _ _ _ _ us hl => match us, hl with | [_], _ => rfl
  have F_first_line := fun_mk (st := s_first_line) l_first_line q_first_line k_first_line
  have B_first_line := F_first_line.binds (ps := p_first_line) fun _ _ _ _ _ _ us hl => match us, hl with | [], _ => rfl
  have F_print_numbers := fun_mk (st := s_print_numbers) l_print_numbers q_print_numbers k_print_numbers
  have B_print_numbers := F_print_numbers.binds (ps := p_print_numbers) fun _ _ _ _ _ _ us hl => match us, hl with | [_], _ => rfl
  have F_parse_line := fun_mk (st := s_parse_line) l_parse_line q_parse_line k_parse_line
  have B_parse_line := F_parse_line.binds (ps := p_parse_line) fun _ _ _ _ _ _ us hl => match us, hl with | [_, _], _ => rfl
  have F_check_days := fun_mk (st := s_check_days) l_check_days q_check_days k_check_days
  have B_check_days := F_check_days.binds (ps := p_check_days) fun _ _ _ _ _ _ us hl => match us, hl with | [_, _], _ => rfl
  have F_report := fun_mk (st := s_report) l_report q_report k_report
  have B_report := F_report.binds (ps := p_report) fun _ _ _ _ _ _ us hl => match us, hl with | [_, _, _], _ => rfl
  have F_parse_report := fun_mk (st := s_parse_report) l_parse_report q_parse_report k_parse_report
  have B_parse_report := F_parse_report.binds (ps := p_parse_report) fun _ _ _ _ _ _ us hl => match us, hl with | [_], _ => rfl
  have F_count_keepable := fun_mk (st := s_count_keepable) l_count_keepable q_count_keepable k_count_keepable
  have B_count_keepable := F_count_keepable.binds (ps := p_count_keepable) fun _ _ _ _ _ _ us hl => match us, hl with | [_, _], _ => rfl
  have F_Course___init__ := fun_mk (st := s_Course___init__) l_Course___init__ q_Course___init__ k_Course___init__
  have B_Course___init__ := F_Course___init__.binds (ps := p_Course___init__) fun _ _ _ _ _ _ us hl => match us, hl with | [_, _, _, _], _ => rfl
  have F_Course_sales_on := fun_mk (st := s_Course_sales_on) l_Course_sales_on q_Course_sales_on k_Course_sales_on
  have B_Course_sales_on := F_Course_sales_on.binds (ps := p_Course_sales_on) fun _ _ _ _ _ _ us hl => match us, hl with | [_, _], _ => rfl
  have F_Course_find_settled := fun_mk (st := s_Course_find_settled) l_Course_find_settled q_Course_find_settled k_Course_find_settled
  have B_Course_find_settled := F_Course_find_settled.binds (ps := p_Course_find_settled) fun _ _ _ _ _ _ us hl => match us, hl with | [_], _ => rfl
  have F_Course_sum_settled_round := fun_mk (st := s_Course_sum_settled_round) l_Course_sum_settled_round q_Course_sum_settled_round k_Course_sum_settled_round
  have B_Course_sum_settled_round := F_Course_sum_settled_round.binds (ps := p_Course_sum_settled_round) fun _ _ _ _ _ _ us hl => match us, hl with | [_], _ => rfl
  have F_Course__play_round := fun_mk (st := s_Course__play_round) l_Course__play_round q_Course__play_round k_Course__play_round
  have B_Course__play_round := F_Course__play_round.binds (ps := p_Course__play_round) fun _ _ _ _ _ _ us hl => match us, hl with | [_, _], _ => rfl
  have F_Course__stocks_in := fun_mk (st := s_Course__stocks_in) l_Course__stocks_in q_Course__stocks_in k_Course__stocks_in
  have B_Course__stocks_in := F_Course__stocks_in.binds (ps := p_Course__stocks_in) fun _ _ _ _ _ _ us hl => match us, hl with | [_, _], _ => rfl
  have F_Course__misses_in := fun_mk (st := s_Course__misses_in) l_Course__misses_in q_Course__misses_in k_Course__misses_in
  have B_Course__misses_in := F_Course__misses_in.binds (ps := p_Course__misses_in) fun _ _ _ _ _ _ us hl => match us, hl with | [_, _], _ => rfl
  have F_Course__count_growing := fun_mk (st := s_Course__count_growing) l_Course__count_growing q_Course__count_growing k_Course__count_growing
  have B_Course__count_growing := F_Course__count_growing.binds (ps := p_Course__count_growing) fun _ _ _ _ _ _ us hl => match us, hl with | [_], _ => rfl
  have F_check_amounts := fun_mk (st := s_check_amounts) l_check_amounts q_check_amounts k_check_amounts
  have B_check_amounts := F_check_amounts.binds (ps := p_check_amounts) fun _ _ _ _ _ _ us hl => match us, hl with | [_, _], _ => rfl
  have F_check_life := fun_mk (st := s_check_life) l_check_life q_check_life k_check_life
  have B_check_life := F_check_life.binds (ps := p_check_life) fun _ _ _ _ _ _ us hl => match us, hl with | [_], _ => rfl
  have F_check_bakery := fun_mk (st := s_check_bakery) l_check_bakery q_check_bakery k_check_bakery
  have B_check_bakery := F_check_bakery.binds (ps := p_check_bakery) fun _ _ _ _ _ _ us hl => match us, hl with | [_, _, _], _ => rfl
  have F_Bakery___init__ := fun_mk (st := s_Bakery___init__) l_Bakery___init__ q_Bakery___init__ k_Bakery___init__
  have B_Bakery___init__ := F_Bakery___init__.binds (ps := p_Bakery___init__) fun _ _ _ _ _ _ us hl => match us, hl with | [_, _, _, _], _ => rfl
  have F_Bakery_bakes := fun_mk (st := s_Bakery_bakes) l_Bakery_bakes q_Bakery_bakes k_Bakery_bakes
  have B_Bakery_bakes := F_Bakery_bakes.binds (ps := p_Bakery_bakes) fun _ _ _ _ _ _ us hl => match us, hl with | [_], _ => rfl
  have F_Bakery_sold := fun_mk (st := s_Bakery_sold) l_Bakery_sold q_Bakery_sold k_Bakery_sold
  have B_Bakery_sold := F_Bakery_sold.binds (ps := p_Bakery_sold) fun _ _ _ _ _ _ us hl => match us, hl with | [_, _], _ => rfl
  have F_Bakery_missed := fun_mk (st := s_Bakery_missed) l_Bakery_missed q_Bakery_missed k_Bakery_missed
  have B_Bakery_missed := F_Bakery_missed.binds (ps := p_Bakery_missed) fun _ _ _ _ _ _ us hl => match us, hl with | [_, _], _ => rfl
  have F_Bakery_thrown := fun_mk (st := s_Bakery_thrown) l_Bakery_thrown q_Bakery_thrown k_Bakery_thrown
  have B_Bakery_thrown := F_Bakery_thrown.binds (ps := p_Bakery_thrown) fun _ _ _ _ _ _ us hl => match us, hl with | [_, _], _ => rfl
  have F__law_start := fun_mk (st := s__law_start) l__law_start q__law_start k__law_start
  have B__law_start := F__law_start.binds (ps := p__law_start) fun _ _ _ _ _ _ us hl => match us, hl with | [_], _ => rfl
  have F__law_drawn := fun_mk (st := s__law_drawn) l__law_drawn q__law_drawn k__law_drawn
  have B__law_drawn := F__law_drawn.binds (ps := p__law_drawn) fun _ _ _ _ _ _ us hl => match us, hl with | [_, _], _ => rfl
  have F__law_same := fun_mk (st := s__law_same) l__law_same q__law_same k__law_same
  have B__law_same := F__law_same.binds (ps := p__law_same) fun _ _ _ _ _ _ us hl => match us, hl with | [_, _], _ => rfl
  have F__law_outcome := fun_mk (st := s__law_outcome) l__law_outcome q__law_outcome k__law_outcome
  have B__law_outcome := F__law_outcome.binds (ps := p__law_outcome) fun _ _ _ _ _ _ us hl => match us, hl with | [_], _ => rfl
  have F__law_amounts := fun_mk (st := s__law_amounts) l__law_amounts q__law_amounts k__law_amounts
  have B__law_amounts := F__law_amounts.binds (ps := p__law_amounts) fun _ _ _ _ _ _ us hl => match us, hl with | [_, _, _], _ => rfl
  have F__law_grouped := fun_mk (st := s__law_grouped) l__law_grouped q__law_grouped k__law_grouped
  have B__law_grouped := F__law_grouped.binds (ps := p__law_grouped) fun _ _ _ _ _ _ us hl => match us, hl with | [_], _ => rfl
  have F__law_line := fun_mk (st := s__law_line) l__law_line q__law_line k__law_line
  have B__law_line := F__law_line.binds (ps := p__law_line) fun _ _ _ _ _ _ us hl => match us, hl with | [_], _ => rfl
  have F__law_number := fun_mk (st := s__law_number) l__law_number q__law_number k__law_number
  have B__law_number := F__law_number.binds (ps := p__law_number) fun _ _ _ _ _ _ us hl => match us, hl with | [_], _ => rfl
  have F__law_read := fun_mk (st := s__law_read) l__law_read q__law_read k__law_read
  have B__law_read := F__law_read.binds (ps := p__law_read) fun _ _ _ _ _ _ us hl => match us, hl with | [_], _ => rfl
  have F__law_changed := fun_mk (st := s__law_changed) l__law_changed q__law_changed k__law_changed
  have B__law_changed := F__law_changed.binds (ps := p__law_changed) fun _ _ _ _ _ _ us hl => match us, hl with | [_, _], _ => rfl
  have F_law := fun_mk (st := s_law) l_law q_law k_law
  have B_law := F_law.binds (ps := p_law) fun _ _ _ _ _ _ us hl => match us, hl with | [_], _ => rfl
  have T : Txt K mg { c_Course := c_Course, mc_Course := .none, c_Bakery := c_Bakery, mc_Bakery := .type "type", t_MOST_LOAVES := t_MOST_LOAVES, t_LAST_DAY := t_LAST_DAY, t_MOST_REPORT_DAYS := t_MOST_REPORT_DAYS, a_COLUMNS := a_COLUMNS, c_LoafError := c_LoafError, c_InvalidNumber := c_InvalidNumber, c_InvalidReport := c_InvalidReport, P := l.prog, f_InvalidReport___init__ := f_InvalidReport___init__, k_InvalidReport___init__ := ka_InvalidReport___init__, cc_InvalidReport___init__ := cc_InvalidReport___init__, d_InvalidReport___init__ := PySem.W.ksFn "__init__" "InvalidReport.__init__" (defArgs s_InvalidReport___init__) (defBody s_InvalidReport___init__) (defScope s_InvalidReport___init__) .none kV_InvalidReport___init__ dc_InvalidReport___init__ pm_InvalidReport___init__ an_InvalidReport___init__ (.ref ka_InvalidReport___init__) ct_InvalidReport___init__ cc_InvalidReport___init__, f_check_number := f_check_number, d_check_number := PySem.W.fnOf "check_number" "check_number" (defArgs s_check_number) (defBody s_check_number) (defScope s_check_number) .none kV_check_number dc_check_number pm_check_number an_check_number cd_check_number ct_check_number, f_join_cells := f_join_cells, d_join_cells := PySem.W.fnOf "join_cells" "join_cells" (defArgs s_join_cells) (defBody s_join_cells) (defScope s_join_cells) .none kV_join_cells dc_join_cells pm_join_cells an_join_cells cd_join_cells ct_join_cells, f_split_cells := f_split_cells, d_split_cells := PySem.W.fnOf "split_cells" "split_cells" (defArgs s_split_cells) (defBody s_split_cells) (defScope s_split_cells) .none kV_split_cells dc_split_cells pm_split_cells an_split_cells cd_split_cells ct_split_cells, f_first_line := f_first_line, d_first_line := PySem.W.fnOf "first_line" "first_line" (defArgs s_first_line) (defBody s_first_line) (defScope s_first_line) .none kV_first_line dc_first_line pm_first_line an_first_line cd_first_line ct_first_line, f_print_numbers := f_print_numbers, d_print_numbers := PySem.W.fnOf "print_numbers" "print_numbers" (defArgs s_print_numbers) (defBody s_print_numbers) (defScope s_print_numbers) .none kV_print_numbers dc_print_numbers pm_print_numbers an_print_numbers cd_print_numbers ct_print_numbers, f_parse_line := f_parse_line, d_parse_line := PySem.W.fnOf "parse_line" "parse_line" (defArgs s_parse_line) (defBody s_parse_line) (defScope s_parse_line) .none kV_parse_line dc_parse_line pm_parse_line an_parse_line cd_parse_line ct_parse_line, f_check_days := f_check_days, d_check_days := PySem.W.fnOf "check_days" "check_days" (defArgs s_check_days) (defBody s_check_days) (defScope s_check_days) .none kV_check_days dc_check_days pm_check_days an_check_days cd_check_days ct_check_days, f_report := f_report, d_report := PySem.W.fnOf "report" "report" (defArgs s_report) (defBody s_report) (defScope s_report) .none kV_report dc_report pm_report an_report cd_report ct_report, f_parse_report := f_parse_report, d_parse_report := PySem.W.fnOf "parse_report" "parse_report" (defArgs s_parse_report) (defBody s_parse_report) (defScope s_parse_report) .none kV_parse_report dc_parse_report pm_parse_report an_parse_report cd_parse_report ct_parse_report, f_count_keepable := f_count_keepable, d_count_keepable := PySem.W.fnOf "count_keepable" "count_keepable" (defArgs s_count_keepable) (defBody s_count_keepable) (defScope s_count_keepable) .none kV_count_keepable dc_count_keepable pm_count_keepable an_count_keepable cd_count_keepable ct_count_keepable, f_Course___init__ := f_Course___init__, d_Course___init__ := PySem.W.fnOf "__init__" "Course.__init__" (defArgs s_Course___init__) (defBody s_Course___init__) (defScope s_Course___init__) .none kV_Course___init__ dc_Course___init__ pm_Course___init__ an_Course___init__ cd_Course___init__ ct_Course___init__, f_Course_sales_on := f_Course_sales_on, d_Course_sales_on := PySem.W.fnOf "sales_on" "Course.sales_on" (defArgs s_Course_sales_on) (defBody s_Course_sales_on) (defScope s_Course_sales_on) .none kV_Course_sales_on dc_Course_sales_on pm_Course_sales_on an_Course_sales_on cd_Course_sales_on ct_Course_sales_on, f_Course_find_settled := f_Course_find_settled, d_Course_find_settled := PySem.W.fnOf "find_settled" "Course.find_settled" (defArgs s_Course_find_settled) (defBody s_Course_find_settled) (defScope s_Course_find_settled) .none kV_Course_find_settled dc_Course_find_settled pm_Course_find_settled an_Course_find_settled cd_Course_find_settled ct_Course_find_settled, f_Course_sum_settled_round := f_Course_sum_settled_round, d_Course_sum_settled_round := PySem.W.fnOf "sum_settled_round" "Course.sum_settled_round" (defArgs s_Course_sum_settled_round) (defBody s_Course_sum_settled_round) (defScope s_Course_sum_settled_round) .none kV_Course_sum_settled_round dc_Course_sum_settled_round pm_Course_sum_settled_round an_Course_sum_settled_round cd_Course_sum_settled_round ct_Course_sum_settled_round, f_Course__play_round := f_Course__play_round, d_Course__play_round := PySem.W.fnOf "_play_round" "Course._play_round" (defArgs s_Course__play_round) (defBody s_Course__play_round) (defScope s_Course__play_round) .none kV_Course__play_round dc_Course__play_round pm_Course__play_round an_Course__play_round cd_Course__play_round ct_Course__play_round, f_Course__stocks_in := f_Course__stocks_in, d_Course__stocks_in := PySem.W.fnOf "_stocks_in" "Course._stocks_in" (defArgs s_Course__stocks_in) (defBody s_Course__stocks_in) (defScope s_Course__stocks_in) .none kV_Course__stocks_in dc_Course__stocks_in pm_Course__stocks_in an_Course__stocks_in cd_Course__stocks_in ct_Course__stocks_in, f_Course__misses_in := f_Course__misses_in, d_Course__misses_in := PySem.W.fnOf "_misses_in" "Course._misses_in" (defArgs s_Course__misses_in) (defBody s_Course__misses_in) (defScope s_Course__misses_in) .none kV_Course__misses_in dc_Course__misses_in pm_Course__misses_in an_Course__misses_in cd_Course__misses_in ct_Course__misses_in, f_Course__count_growing := f_Course__count_growing, d_Course__count_growing := PySem.W.fnOf "_count_growing" "Course._count_growing" (defArgs s_Course__count_growing) (defBody s_Course__count_growing) (defScope s_Course__count_growing) .none kV_Course__count_growing dc_Course__count_growing pm_Course__count_growing an_Course__count_growing cd_Course__count_growing ct_Course__count_growing, f_check_amounts := f_check_amounts, d_check_amounts := PySem.W.fnOf "check_amounts" "check_amounts" (defArgs s_check_amounts) (defBody s_check_amounts) (defScope s_check_amounts) .none kV_check_amounts dc_check_amounts pm_check_amounts an_check_amounts cd_check_amounts ct_check_amounts, f_check_life := f_check_life, d_check_life := PySem.W.fnOf "check_life" "check_life" (defArgs s_check_life) (defBody s_check_life) (defScope s_check_life) .none kV_check_life dc_check_life pm_check_life an_check_life cd_check_life ct_check_life, f_check_bakery := f_check_bakery, d_check_bakery := PySem.W.fnOf "check_bakery" "check_bakery" (defArgs s_check_bakery) (defBody s_check_bakery) (defScope s_check_bakery) .none kV_check_bakery dc_check_bakery pm_check_bakery an_check_bakery cd_check_bakery ct_check_bakery, f_Bakery___init__ := f_Bakery___init__, d_Bakery___init__ := PySem.W.fnOf "__init__" "Bakery.__init__" (defArgs s_Bakery___init__) (defBody s_Bakery___init__) (defScope s_Bakery___init__) .none kV_Bakery___init__ dc_Bakery___init__ pm_Bakery___init__ an_Bakery___init__ cd_Bakery___init__ ct_Bakery___init__, f_Bakery_bakes := f_Bakery_bakes, d_Bakery_bakes := PySem.W.fnOf "bakes" "Bakery.bakes" (defArgs s_Bakery_bakes) (defBody s_Bakery_bakes) (defScope s_Bakery_bakes) .none kV_Bakery_bakes dc_Bakery_bakes pm_Bakery_bakes an_Bakery_bakes cd_Bakery_bakes ct_Bakery_bakes, pr_Bakery_bakes := pr_Bakery_bakes, f_Bakery_sold := f_Bakery_sold, d_Bakery_sold := PySem.W.fnOf "sold" "Bakery.sold" (defArgs s_Bakery_sold) (defBody s_Bakery_sold) (defScope s_Bakery_sold) .none kV_Bakery_sold dc_Bakery_sold pm_Bakery_sold an_Bakery_sold cd_Bakery_sold ct_Bakery_sold, f_Bakery_missed := f_Bakery_missed, d_Bakery_missed := PySem.W.fnOf "missed" "Bakery.missed" (defArgs s_Bakery_missed) (defBody s_Bakery_missed) (defScope s_Bakery_missed) .none kV_Bakery_missed dc_Bakery_missed pm_Bakery_missed an_Bakery_missed cd_Bakery_missed ct_Bakery_missed, f_Bakery_thrown := f_Bakery_thrown, d_Bakery_thrown := PySem.W.fnOf "thrown" "Bakery.thrown" (defArgs s_Bakery_thrown) (defBody s_Bakery_thrown) (defScope s_Bakery_thrown) .none kV_Bakery_thrown dc_Bakery_thrown pm_Bakery_thrown an_Bakery_thrown cd_Bakery_thrown ct_Bakery_thrown, f__law_start := f__law_start, d__law_start := PySem.W.fnOf "_law_start" "_law_start" (defArgs s__law_start) (defBody s__law_start) (defScope s__law_start) .none kV__law_start dc__law_start pm__law_start an__law_start cd__law_start ct__law_start, f__law_drawn := f__law_drawn, d__law_drawn := PySem.W.fnOf "_law_drawn" "_law_drawn" (defArgs s__law_drawn) (defBody s__law_drawn) (defScope s__law_drawn) .none kV__law_drawn dc__law_drawn pm__law_drawn an__law_drawn cd__law_drawn ct__law_drawn, f__law_same := f__law_same, d__law_same := PySem.W.fnOf "_law_same" "_law_same" (defArgs s__law_same) (defBody s__law_same) (defScope s__law_same) .none kV__law_same dc__law_same pm__law_same an__law_same cd__law_same ct__law_same, f__law_outcome := f__law_outcome, d__law_outcome := PySem.W.fnOf "_law_outcome" "_law_outcome" (defArgs s__law_outcome) (defBody s__law_outcome) (defScope s__law_outcome) .none kV__law_outcome dc__law_outcome pm__law_outcome an__law_outcome cd__law_outcome ct__law_outcome, f__law_amounts := f__law_amounts, d__law_amounts := PySem.W.fnOf "_law_amounts" "_law_amounts" (defArgs s__law_amounts) (defBody s__law_amounts) (defScope s__law_amounts) .none kV__law_amounts dc__law_amounts pm__law_amounts an__law_amounts cd__law_amounts ct__law_amounts, f__law_grouped := f__law_grouped, d__law_grouped := PySem.W.fnOf "_law_grouped" "_law_grouped" (defArgs s__law_grouped) (defBody s__law_grouped) (defScope s__law_grouped) .none kV__law_grouped dc__law_grouped pm__law_grouped an__law_grouped cd__law_grouped ct__law_grouped, f__law_line := f__law_line, d__law_line := PySem.W.fnOf "_law_line" "_law_line" (defArgs s__law_line) (defBody s__law_line) (defScope s__law_line) .none kV__law_line dc__law_line pm__law_line an__law_line cd__law_line ct__law_line, f__law_number := f__law_number, d__law_number := PySem.W.fnOf "_law_number" "_law_number" (defArgs s__law_number) (defBody s__law_number) (defScope s__law_number) .none kV__law_number dc__law_number pm__law_number an__law_number cd__law_number ct__law_number, f__law_read := f__law_read, d__law_read := PySem.W.fnOf "_law_read" "_law_read" (defArgs s__law_read) (defBody s__law_read) (defScope s__law_read) .none kV__law_read dc__law_read pm__law_read an__law_read cd__law_read ct__law_read, f__law_changed := f__law_changed, d__law_changed := PySem.W.fnOf "_law_changed" "_law_changed" (defArgs s__law_changed) (defBody s__law_changed) (defScope s__law_changed) .none kV__law_changed dc__law_changed pm__law_changed an__law_changed cd__law_changed ct__law_changed, k_law := ka_law, tb_law := tb_law, f_law := fa, d_law := PySem.W.fnOf "law" "law" (defArgs s_law) (defBody s_law) (defScope s_law) .none kV_law dc_law pm_law an_law (.ref ka_law) ct_law } :=
    { g_Course := PySem.W.mg_of X G g_Course,
      cl_Course := ⟨pg_Course, hd_Course, po_Course, sa_Course⟩,
      g_Bakery := PySem.W.mg_of X G g_Bakery,
      cl_Bakery := ⟨pg_Bakery, hd_Bakery, po_Bakery, sa_Bakery⟩,
      na_Course__bakes := na_Course__bakes,
      na_Course__demands := na_Course__demands,
      na_Course__keepable := na_Course__keepable,
      na_Course__gain := na_Course__gain,
      na_Course__first_end := na_Course__first_end,
      na_Course__full_end := na_Course__full_end,
      na_Course__first_misses := na_Course__first_misses,
      na_Course__later_misses := na_Course__later_misses,
      na_Bakery__bakes := na_Bakery__bakes,
      na_Bakery__demands := na_Bakery__demands,
      na_Bakery__life := na_Bakery__life,
      na_Bakery_course := na_Bakery_course,
      na_Bakery__settled_day := na_Bakery__settled_day,
      na_Bakery__long_run := na_Bakery__long_run,
      cv_Bakery_MAX_DAYS := ⟨⟨rd_Bakery, gt_Bakery⟩, _, ⟨cv_Bakery_MAX_DAYS, ⟨_, rfl⟩⟩⟩,
      cv_Bakery_MAX_LIFE := ⟨⟨rd_Bakery, gt_Bakery⟩, _, ⟨cv_Bakery_MAX_LIFE, ⟨_, rfl⟩⟩⟩,
      g_MOST_LOAVES := PySem.W.mg_of X G g_MOST_LOAVES,
      g_LAST_DAY := PySem.W.mg_of X G g_LAST_DAY,
      g_MOST_REPORT_DAYS := PySem.W.mg_of X G g_MOST_REPORT_DAYS,
      g_COLUMNS := PySem.W.mg_of X G g_COLUMNS,
      co_COLUMNS := colsOk_mk kc_COLUMNS kc0_COLUMNS kc1_COLUMNS kc2_COLUMNS kc3_COLUMNS kc4_COLUMNS,
      b_bool := PySem.W.mg_none_of X G b_bool,
      b_divmod := PySem.W.mg_none_of X G b_divmod,
      b_enumerate := PySem.W.mg_none_of X G b_enumerate,
      b_int := PySem.W.mg_none_of X G b_int,
      b_isinstance := PySem.W.mg_none_of X G b_isinstance,
      b_len := PySem.W.mg_none_of X G b_len,
      b_list := PySem.W.mg_none_of X G b_list,
      b_max := PySem.W.mg_none_of X G b_max,
      b_min := PySem.W.mg_none_of X G b_min,
      b_range := PySem.W.mg_none_of X G b_range,
      b_str := PySem.W.mg_none_of X G b_str,
      b_sum := PySem.W.mg_none_of X G b_sum,
      b_super := PySem.W.mg_none_of X G b_super,
      b_tuple := PySem.W.mg_none_of X G b_tuple,
      b_zip := PySem.W.mg_none_of X G b_zip,
      g_LoafError := PySem.W.mg_of X G g_LoafError,
      g_InvalidNumber := PySem.W.mg_of X G g_InvalidNumber,
      g_InvalidReport := PySem.W.mg_of X G g_InvalidReport,
      xp_InvalidNumber := xp_InvalidNumber,
      xq_InvalidNumber := xq_InvalidNumber,
      xb_InvalidNumber := xb_InvalidNumber,
      xy_InvalidNumber := xy_InvalidNumber,
      xv_InvalidNumber := xv_InvalidNumber,
      xk_InvalidNumber_InvalidNumber := xk_InvalidNumber_InvalidNumber,
      xk_InvalidNumber_InvalidReport := xk_InvalidNumber_InvalidReport,
      xI_InvalidNumber := ⟨xic_InvalidNumber, xga_InvalidNumber, xgg_InvalidNumber, xb_InvalidNumber, xhd_InvalidNumber, xca_InvalidNumber, xe_cg, xe_ct, xmo_InvalidNumber⟩,
      xm_InvalidNumber := PySem.W.exm_ref xe_base xe_dict xe_type sL_InvalidNumber,
      xk_InvalidReport_InvalidNumber := xk_InvalidReport_InvalidNumber,
      xk_InvalidReport_InvalidReport := xk_InvalidReport_InvalidReport,
      na_InvalidReport_row := na_InvalidReport_row,
      xv_InvalidReport := xv_InvalidReport,
      ox_InvalidReport := ⟨⟨_, _, _, _, _, _, _, _, _, _, _, _, _, _, _, xL_InvalidReport, xr_InvalidReport⟩, xsa_InvalidReport, xeC_InvalidReport, xtC_InvalidReport, xkC_InvalidReport⟩,
      xi_InvalidReport := xi_InvalidReport,
      xt_InvalidReport := xt_InvalidReport,
      xs_InvalidReport := ⟨⟨_, _, _, _, _, _, _, _, rfl, l_InvalidReport___init__, q_InvalidReport___init__⟩, ⟨_, _, _, _, _, _, lk_InvalidReport___init__, vf_InvalidReport___init__, fi_InvalidReport___init__⟩, ⟨_, _, _, ce_InvalidReport___init__⟩, xe_any, su_InvalidReport___init__, sb_InvalidReport___init__, sv_InvalidReport___init__, xe_top⟩,
      xI_InvalidReport := ⟨xic_InvalidReport, xga_InvalidReport, xgg_InvalidReport, xeC_InvalidReport, xhd_InvalidReport, xca_InvalidReport, xe_cg, xe_ct, xmo_InvalidReport⟩,
      xm_InvalidReport := PySem.W.exm_ref xe_base xe_dict xe_type sL_InvalidReport___init__,
      b_InvalidReport___init__ := B_InvalidReport___init__,
      xn_InvalidNumber_InvalidNumber := PySem.W.exm_ref eb_InvalidNumber ed_InvalidNumber et_InvalidNumber es_InvalidNumber_InvalidNumber,
      xn_InvalidReport_InvalidNumber := PySem.W.exm_ref eb_InvalidNumber ed_InvalidNumber et_InvalidNumber es_InvalidReport_InvalidNumber,
      xn_InvalidReport_InvalidReport := PySem.W.exm_ref eb_InvalidReport ed_InvalidReport et_InvalidReport es_InvalidReport_InvalidReport,
      g_check_number := PySem.W.mg_of X G a_check_number,
      F_check_number := F_check_number,
      b_check_number := B_check_number,
      g_join_cells := PySem.W.mg_of X G a_join_cells,
      F_join_cells := F_join_cells,
      b_join_cells := B_join_cells,
      g_split_cells := PySem.W.mg_of X G a_split_cells,
      F_split_cells := F_split_cells,
      b_split_cells := B_split_cells,
      g_first_line := PySem.W.mg_of X G a_first_line,
      F_first_line := F_first_line,
      b_first_line := B_first_line,
      g_print_numbers := PySem.W.mg_of X G a_print_numbers,
      F_print_numbers := F_print_numbers,
      b_print_numbers := B_print_numbers,
      g_parse_line := PySem.W.mg_of X G a_parse_line,
      F_parse_line := F_parse_line,
      b_parse_line := B_parse_line,
      g_check_days := PySem.W.mg_of X G a_check_days,
      F_check_days := F_check_days,
      b_check_days := B_check_days,
      g_report := PySem.W.mg_of X G a_report,
      F_report := F_report,
      b_report := B_report,
      g_parse_report := PySem.W.mg_of X G a_parse_report,
      F_parse_report := F_parse_report,
      b_parse_report := B_parse_report,
      g_count_keepable := PySem.W.mg_of X G a_count_keepable,
      F_count_keepable := F_count_keepable,
      b_count_keepable := B_count_keepable,
      mk_Course := ⟨mk_Course, a_Course___init__, i_Course___init__, kc_Course⟩,
      F_Course___init__ := F_Course___init__,
      b_Course___init__ := B_Course___init__,
      m_Course_sales_on := ⟨a_Course_sales_on, i_Course_sales_on, k_Course_sales_on⟩,
      F_Course_sales_on := F_Course_sales_on,
      b_Course_sales_on := B_Course_sales_on,
      m_Course_find_settled := ⟨a_Course_find_settled, i_Course_find_settled, k_Course_find_settled⟩,
      F_Course_find_settled := F_Course_find_settled,
      b_Course_find_settled := B_Course_find_settled,
      m_Course_sum_settled_round := ⟨a_Course_sum_settled_round, i_Course_sum_settled_round, k_Course_sum_settled_round⟩,
      F_Course_sum_settled_round := F_Course_sum_settled_round,
      b_Course_sum_settled_round := B_Course_sum_settled_round,
      m_Course__play_round := ⟨a_Course__play_round, i_Course__play_round, k_Course__play_round⟩,
      F_Course__play_round := F_Course__play_round,
      b_Course__play_round := B_Course__play_round,
      m_Course__stocks_in := ⟨a_Course__stocks_in, i_Course__stocks_in, k_Course__stocks_in⟩,
      F_Course__stocks_in := F_Course__stocks_in,
      b_Course__stocks_in := B_Course__stocks_in,
      m_Course__misses_in := ⟨a_Course__misses_in, i_Course__misses_in, k_Course__misses_in⟩,
      F_Course__misses_in := F_Course__misses_in,
      b_Course__misses_in := B_Course__misses_in,
      m_Course__count_growing := ⟨a_Course__count_growing, i_Course__count_growing, k_Course__count_growing⟩,
      F_Course__count_growing := F_Course__count_growing,
      b_Course__count_growing := B_Course__count_growing,
      g_check_amounts := PySem.W.mg_of X G a_check_amounts,
      F_check_amounts := F_check_amounts,
      b_check_amounts := B_check_amounts,
      g_check_life := PySem.W.mg_of X G a_check_life,
      F_check_life := F_check_life,
      b_check_life := B_check_life,
      g_check_bakery := PySem.W.mg_of X G a_check_bakery,
      F_check_bakery := F_check_bakery,
      b_check_bakery := B_check_bakery,
      mk_Bakery := ⟨mk_Bakery, a_Bakery___init__, i_Bakery___init__, kc_Bakery⟩,
      F_Bakery___init__ := F_Bakery___init__,
      b_Bakery___init__ := B_Bakery___init__,
      pp_Bakery_bakes := ⟨a_Bakery_bakes, pg_Bakery_bakes, pt_Bakery_bakes, ⟨_, pr1_Bakery_bakes⟩⟩,
      F_Bakery_bakes := F_Bakery_bakes,
      b_Bakery_bakes := B_Bakery_bakes,
      m_Bakery_sold := ⟨a_Bakery_sold, i_Bakery_sold, k_Bakery_sold⟩,
      F_Bakery_sold := F_Bakery_sold,
      b_Bakery_sold := B_Bakery_sold,
      m_Bakery_missed := ⟨a_Bakery_missed, i_Bakery_missed, k_Bakery_missed⟩,
      F_Bakery_missed := F_Bakery_missed,
      b_Bakery_missed := B_Bakery_missed,
      m_Bakery_thrown := ⟨a_Bakery_thrown, i_Bakery_thrown, k_Bakery_thrown⟩,
      F_Bakery_thrown := F_Bakery_thrown,
      b_Bakery_thrown := B_Bakery_thrown,
      g__law_start := PySem.W.mg_of X G a__law_start,
      F__law_start := F__law_start,
      b__law_start := B__law_start,
      g__law_drawn := PySem.W.mg_of X G a__law_drawn,
      F__law_drawn := F__law_drawn,
      b__law_drawn := B__law_drawn,
      g__law_same := PySem.W.mg_of X G a__law_same,
      F__law_same := F__law_same,
      b__law_same := B__law_same,
      g__law_outcome := PySem.W.mg_of X G a__law_outcome,
      F__law_outcome := F__law_outcome,
      b__law_outcome := B__law_outcome,
      g__law_amounts := PySem.W.mg_of X G a__law_amounts,
      F__law_amounts := F__law_amounts,
      b__law_amounts := B__law_amounts,
      g__law_grouped := PySem.W.mg_of X G a__law_grouped,
      F__law_grouped := F__law_grouped,
      b__law_grouped := B__law_grouped,
      g__law_line := PySem.W.mg_of X G a__law_line,
      F__law_line := F__law_line,
      b__law_line := B__law_line,
      g__law_number := PySem.W.mg_of X G a__law_number,
      F__law_number := F__law_number,
      b__law_number := B__law_number,
      g__law_read := PySem.W.mg_of X G a__law_read,
      F__law_read := F__law_read,
      b__law_read := B__law_read,
      g__law_changed := PySem.W.mg_of X G a__law_changed,
      F__law_changed := F__law_changed,
      b__law_changed := B__law_changed,
      g_law := PySem.W.mg_of X G a_law,
      FC_law := funC_mk (st := s_law) l_law q_law,
      F_law := F_law,
      b_law := B_law }
  have all : ∀ (Pr : Addr × Addr → Prop), Pr (ka_law, tb_law) → ∀ p ∈ [(ka_law, tb_law)], Pr p := fun Pr hp p hm => by
    rw [List.mem_singleton.mp hm]; exact hp
  exact ⟨PySem.W.fnOf "law" "law" (defArgs s_law) (defBody s_law) (defScope s_law) .none kV_law dc_law pm_law an_law (.ref ka_law) ct_law, [(ka_law, tb_law)], sp_lawT K tb_law, all _ ht_law, all _ nt_law, all _ (PySem.W.codeHd_of_K X ch_law), fun s v => .of_eq rfl, fun H a ns hl _ hT hS => ⟨a, ns, rfl, hS, hl, hT (ka_law, tb_law) (by simp), fun _ => rfl⟩, fun base _ _ TB => ok_law T rfl (TB (ka_law, tb_law) (by simp))⟩
end Sw

open PySem PySem.W PyProof.Rows
set_option maxRecDepth 100000 in
set_option maxHeartbeats 0 in
theorem PySem.Challenge.cw_staleloaves_k47_reports_holds : PySem.Challenge.rw_staleloaves_k47_reports.Holds := by
  w_on; o_law; k_head; (case hw => w_witness2)
  k_fill
  refine LamX.walk_ofTs (l := PySem.Challenge.rw_staleloaves_k47_reports) (n := 63) (k := 11) (x := "_law_script") (CX := fun _ => L2.CX0) rfl (by decide) rfl ⟨rfl, by decide, by decide⟩ (fun w h Y => PySem.W.km_in_of Y) ?F (fun _ _ _ _ _ z => z)
  case F =>
    intro w mg fa h Y KX G hmg
    refine' Sw.all_mk KX G hmg ?g_Course ?pg_Course ?hd_Course ?po_Course ?sa_Course ?mk_Course ?kc_Course ?g_Bakery ?pg_Bakery ?hd_Bakery ?po_Bakery ?sa_Bakery ?mk_Bakery ?kc_Bakery ?na_Course__bakes ?na_Course__demands ?na_Course__keepable ?na_Course__gain ?na_Course__first_end ?na_Course__full_end ?na_Course__first_misses ?na_Course__later_misses ?na_Bakery__bakes ?na_Bakery__demands ?na_Bakery__life ?na_Bakery_course ?na_Bakery__settled_day ?na_Bakery__long_run ?rd_Bakery ?gt_Bakery ?cv_Bakery_MAX_DAYS ?cv_Bakery_MAX_LIFE ?g_MOST_LOAVES ?g_LAST_DAY ?g_MOST_REPORT_DAYS ?g_COLUMNS ?kc_COLUMNS ?kc0_COLUMNS ?kc1_COLUMNS ?kc2_COLUMNS ?kc3_COLUMNS ?kc4_COLUMNS ?b_bool ?b_divmod ?b_enumerate ?b_int ?b_isinstance ?b_len ?b_list ?b_max ?b_min ?b_range ?b_str ?b_sum ?b_super ?b_tuple ?b_zip ?g_LoafError ?g_InvalidNumber ?g_InvalidReport ?xe_base ?xe_dict ?xe_type ?xe_any ?xe_top ?xe_cg ?xe_ct ?xp_InvalidNumber ?xq_InvalidNumber ?xb_InvalidNumber ?xy_InvalidNumber ?xv_InvalidNumber ?xk_InvalidNumber_InvalidNumber ?xk_InvalidNumber_InvalidReport ?xhd_InvalidNumber ?xic_InvalidNumber ?xga_InvalidNumber ?xgg_InvalidNumber ?xca_InvalidNumber ?xmo_InvalidNumber ?sL_InvalidNumber ?xL_InvalidReport ?xr_InvalidReport ?xsa_InvalidReport ?xkC_InvalidReport ?xeC_InvalidReport ?xtC_InvalidReport ?xhd_InvalidReport ?xic_InvalidReport ?xga_InvalidReport ?xgg_InvalidReport ?xca_InvalidReport ?xmo_InvalidReport ?xi_InvalidReport ?xt_InvalidReport ?l_InvalidReport___init__ ?q_InvalidReport___init__ ?lk_InvalidReport___init__ ?vf_InvalidReport___init__ ?fi_InvalidReport___init__ ?ce_InvalidReport___init__ ?su_InvalidReport___init__ ?sb_InvalidReport___init__ ?sv_InvalidReport___init__ ?sL_InvalidReport___init__ ?xv_InvalidReport ?xk_InvalidReport_InvalidNumber ?xk_InvalidReport_InvalidReport ?na_InvalidReport_row ?eb_InvalidNumber ?ed_InvalidNumber ?et_InvalidNumber ?eb_InvalidReport ?ed_InvalidReport ?et_InvalidReport ?es_InvalidNumber_InvalidNumber ?es_InvalidReport_InvalidNumber ?es_InvalidReport_InvalidReport ?a_check_number ?l_check_number ?q_check_number ?k_check_number ?a_join_cells ?l_join_cells ?q_join_cells ?k_join_cells ?a_split_cells ?l_split_cells ?q_split_cells ?k_split_cells ?a_first_line ?l_first_line ?q_first_line ?k_first_line ?a_print_numbers ?l_print_numbers ?q_print_numbers ?k_print_numbers ?a_parse_line ?l_parse_line ?q_parse_line ?k_parse_line ?a_check_days ?l_check_days ?q_check_days ?k_check_days ?a_report ?l_report ?q_report ?k_report ?a_parse_report ?l_parse_report ?q_parse_report ?k_parse_report ?a_count_keepable ?l_count_keepable ?q_count_keepable ?k_count_keepable ?a_Course___init__ ?i_Course___init__ ?l_Course___init__ ?q_Course___init__ ?k_Course___init__ ?a_Course_sales_on ?i_Course_sales_on ?l_Course_sales_on ?q_Course_sales_on ?k_Course_sales_on ?a_Course_find_settled ?i_Course_find_settled ?l_Course_find_settled ?q_Course_find_settled ?k_Course_find_settled ?a_Course_sum_settled_round ?i_Course_sum_settled_round ?l_Course_sum_settled_round ?q_Course_sum_settled_round ?k_Course_sum_settled_round ?a_Course__play_round ?i_Course__play_round ?l_Course__play_round ?q_Course__play_round ?k_Course__play_round ?a_Course__stocks_in ?i_Course__stocks_in ?l_Course__stocks_in ?q_Course__stocks_in ?k_Course__stocks_in ?a_Course__misses_in ?i_Course__misses_in ?l_Course__misses_in ?q_Course__misses_in ?k_Course__misses_in ?a_Course__count_growing ?i_Course__count_growing ?l_Course__count_growing ?q_Course__count_growing ?k_Course__count_growing ?a_check_amounts ?l_check_amounts ?q_check_amounts ?k_check_amounts ?a_check_life ?l_check_life ?q_check_life ?k_check_life ?a_check_bakery ?l_check_bakery ?q_check_bakery ?k_check_bakery ?a_Bakery___init__ ?i_Bakery___init__ ?l_Bakery___init__ ?q_Bakery___init__ ?k_Bakery___init__ ?a_Bakery_bakes ?pg_Bakery_bakes ?pt_Bakery_bakes ?pr1_Bakery_bakes ?l_Bakery_bakes ?q_Bakery_bakes ?k_Bakery_bakes ?a_Bakery_sold ?i_Bakery_sold ?l_Bakery_sold ?q_Bakery_sold ?k_Bakery_sold ?a_Bakery_missed ?i_Bakery_missed ?l_Bakery_missed ?q_Bakery_missed ?k_Bakery_missed ?a_Bakery_thrown ?i_Bakery_thrown ?l_Bakery_thrown ?q_Bakery_thrown ?k_Bakery_thrown ?a__law_start ?l__law_start ?q__law_start ?k__law_start ?a__law_drawn ?l__law_drawn ?q__law_drawn ?k__law_drawn ?a__law_same ?l__law_same ?q__law_same ?k__law_same ?a__law_outcome ?l__law_outcome ?q__law_outcome ?k__law_outcome ?a__law_amounts ?l__law_amounts ?q__law_amounts ?k__law_amounts ?a__law_grouped ?l__law_grouped ?q__law_grouped ?k__law_grouped ?a__law_line ?l__law_line ?q__law_line ?k__law_line ?a__law_number ?l__law_number ?q__law_number ?k__law_number ?a__law_read ?l__law_read ?q__law_read ?k__law_read ?a__law_changed ?l__law_changed ?q__law_changed ?k__law_changed ?a_law ?l_law ?q_law ?lc_law ?he_law ?ch_law ?nt_law ?ht_law ?k_law
    (case g_Course => k_is)
    (case pg_Course => k_is)
    (case hd_Course => k_is)
    (case po_Course => k_is)
    (case sa_Course => k_is)
    (case mk_Course => k_is)
    (case kc_Course => k_is)
    (case g_Bakery => k_is)
    (case pg_Bakery => k_is)
    (case hd_Bakery => k_is)
    (case po_Bakery => k_is)
    (case sa_Bakery => k_is)
    (case mk_Bakery => k_is)
    (case kc_Bakery => k_is)
    (case na_Course__bakes => k_is)
    (case na_Course__demands => k_is)
    (case na_Course__keepable => k_is)
    (case na_Course__gain => k_is)
    (case na_Course__first_end => k_is)
    (case na_Course__full_end => k_is)
    (case na_Course__first_misses => k_is)
    (case na_Course__later_misses => k_is)
    (case na_Bakery__bakes => k_is)
    (case na_Bakery__demands => k_is)
    (case na_Bakery__life => k_is)
    (case na_Bakery_course => k_is)
    (case na_Bakery__settled_day => k_is)
    (case na_Bakery__long_run => k_is)
    (case rd_Bakery => k_is)
    (case gt_Bakery => k_is)
    (case cv_Bakery_MAX_DAYS => k_is)
    (case cv_Bakery_MAX_LIFE => k_is)
    (case g_MOST_LOAVES => k_is)
    (case g_LAST_DAY => k_is)
    (case g_MOST_REPORT_DAYS => k_is)
    (case g_COLUMNS => k_is)
    (case kc_COLUMNS => k_is)
    (case kc0_COLUMNS => k_is)
    (case kc1_COLUMNS => k_is)
    (case kc2_COLUMNS => k_is)
    (case kc3_COLUMNS => k_is)
    (case kc4_COLUMNS => k_is)
    (case b_bool => k_is)
    (case b_divmod => k_is)
    (case b_enumerate => k_is)
    (case b_int => k_is)
    (case b_isinstance => k_is)
    (case b_len => k_is)
    (case b_list => k_is)
    (case b_max => k_is)
    (case b_min => k_is)
    (case b_range => k_is)
    (case b_str => k_is)
    (case b_sum => k_is)
    (case b_super => k_is)
    (case b_tuple => k_is)
    (case b_zip => k_is)
    (case g_LoafError => k_is)
    (case g_InvalidNumber => k_is)
    (case g_InvalidReport => k_is)
    (case xe_base => k_is)
    (case xe_dict => k_is)
    (case xe_type => k_is)
    (case xe_any => k_is)
    (case xe_top => kernel_rfl)
    (case xe_cg => k_is)
    (case xe_ct => k_is)
    (case xp_InvalidNumber => first | k_exc | kernel_rfl)
    (case xq_InvalidNumber => k_is)
    (case xb_InvalidNumber => k_is)
    (case xy_InvalidNumber => k_is)
    (case xv_InvalidNumber => first | kit_is | kernel_rfl)
    (case xk_InvalidNumber_InvalidNumber => first | kit_is | kernel_rfl)
    (case xk_InvalidNumber_InvalidReport => first | kit_is | kernel_rfl)
    (case xhd_InvalidNumber => k_is)
    (case xic_InvalidNumber => k_is)
    (case xga_InvalidNumber => k_is)
    (case xgg_InvalidNumber => k_is)
    (case xca_InvalidNumber => k_is)
    (case xmo_InvalidNumber => k_is)
    (case sL_InvalidNumber => k_is)
    (case xL_InvalidReport => k_is)
    (case xr_InvalidReport => first | rfl | kernel_rfl | decide +kernel)
    (case xsa_InvalidReport => k_is)
    (case xkC_InvalidReport => k_is)
    (case xeC_InvalidReport => k_is)
    (case xtC_InvalidReport => k_is)
    (case xhd_InvalidReport => k_is)
    (case xic_InvalidReport => k_is)
    (case xga_InvalidReport => k_is)
    (case xgg_InvalidReport => k_is)
    (case xca_InvalidReport => k_is)
    (case xmo_InvalidReport => k_is)
    (case xi_InvalidReport => k_is)
    (case xt_InvalidReport => k_is)
    (case l_InvalidReport___init__ => k_is)
    (case q_InvalidReport___init__ => k_is)
    (case lk_InvalidReport___init__ => k_is)
    (case vf_InvalidReport___init__ => rfl)
    (case fi_InvalidReport___init__ => kernel_rfl)
    (case ce_InvalidReport___init__ => k_is)
    (case su_InvalidReport___init__ => kernel_rfl)
    (case sb_InvalidReport___init__ => k_is)
    (case sv_InvalidReport___init__ => k_is)
    (case sL_InvalidReport___init__ => k_is)
    (case xv_InvalidReport => first | kit_is | kernel_rfl)
    (case xk_InvalidReport_InvalidNumber => first | kit_is | kernel_rfl)
    (case xk_InvalidReport_InvalidReport => first | kit_is | kernel_rfl)
    (case na_InvalidReport_row => k_is)
    (case eb_InvalidNumber => k_is)
    (case ed_InvalidNumber => k_is)
    (case et_InvalidNumber => k_is)
    (case eb_InvalidReport => k_is)
    (case ed_InvalidReport => k_is)
    (case et_InvalidReport => k_is)
    (case es_InvalidNumber_InvalidNumber => k_is)
    (case es_InvalidReport_InvalidNumber => k_is)
    (case es_InvalidReport_InvalidReport => k_is)
    (case a_check_number => k_is)
    (case l_check_number => k_is)
    (case q_check_number => k_is)
    (case k_check_number => k_is)
    (case a_join_cells => k_is)
    (case l_join_cells => k_is)
    (case q_join_cells => k_is)
    (case k_join_cells => k_is)
    (case a_split_cells => k_is)
    (case l_split_cells => k_is)
    (case q_split_cells => k_is)
    (case k_split_cells => k_is)
    (case a_first_line => k_is)
    (case l_first_line => k_is)
    (case q_first_line => k_is)
    (case k_first_line => k_is)
    (case a_print_numbers => k_is)
    (case l_print_numbers => k_is)
    (case q_print_numbers => k_is)
    (case k_print_numbers => k_is)
    (case a_parse_line => k_is)
    (case l_parse_line => k_is)
    (case q_parse_line => k_is)
    (case k_parse_line => k_is)
    (case a_check_days => k_is)
    (case l_check_days => k_is)
    (case q_check_days => k_is)
    (case k_check_days => k_is)
    (case a_report => k_is)
    (case l_report => k_is)
    (case q_report => k_is)
    (case k_report => k_is)
    (case a_parse_report => k_is)
    (case l_parse_report => k_is)
    (case q_parse_report => k_is)
    (case k_parse_report => k_is)
    (case a_count_keepable => k_is)
    (case l_count_keepable => k_is)
    (case q_count_keepable => k_is)
    (case k_count_keepable => k_is)
    (case a_Course___init__ => k_is)
    (case i_Course___init__ => k_is)
    (case l_Course___init__ => k_is)
    (case q_Course___init__ => k_is)
    (case k_Course___init__ => k_is)
    (case a_Course_sales_on => k_is)
    (case i_Course_sales_on => k_is)
    (case l_Course_sales_on => k_is)
    (case q_Course_sales_on => k_is)
    (case k_Course_sales_on => k_is)
    (case a_Course_find_settled => k_is)
    (case i_Course_find_settled => k_is)
    (case l_Course_find_settled => k_is)
    (case q_Course_find_settled => k_is)
    (case k_Course_find_settled => k_is)
    (case a_Course_sum_settled_round => k_is)
    (case i_Course_sum_settled_round => k_is)
    (case l_Course_sum_settled_round => k_is)
    (case q_Course_sum_settled_round => k_is)
    (case k_Course_sum_settled_round => k_is)
    (case a_Course__play_round => k_is)
    (case i_Course__play_round => k_is)
    (case l_Course__play_round => k_is)
    (case q_Course__play_round => k_is)
    (case k_Course__play_round => k_is)
    (case a_Course__stocks_in => k_is)
    (case i_Course__stocks_in => k_is)
    (case l_Course__stocks_in => k_is)
    (case q_Course__stocks_in => k_is)
    (case k_Course__stocks_in => k_is)
    (case a_Course__misses_in => k_is)
    (case i_Course__misses_in => k_is)
    (case l_Course__misses_in => k_is)
    (case q_Course__misses_in => k_is)
    (case k_Course__misses_in => k_is)
    (case a_Course__count_growing => k_is)
    (case i_Course__count_growing => k_is)
    (case l_Course__count_growing => k_is)
    (case q_Course__count_growing => k_is)
    (case k_Course__count_growing => k_is)
    (case a_check_amounts => k_is)
    (case l_check_amounts => k_is)
    (case q_check_amounts => k_is)
    (case k_check_amounts => k_is)
    (case a_check_life => k_is)
    (case l_check_life => k_is)
    (case q_check_life => k_is)
    (case k_check_life => k_is)
    (case a_check_bakery => k_is)
    (case l_check_bakery => k_is)
    (case q_check_bakery => k_is)
    (case k_check_bakery => k_is)
    (case a_Bakery___init__ => k_is)
    (case i_Bakery___init__ => k_is)
    (case l_Bakery___init__ => k_is)
    (case q_Bakery___init__ => k_is)
    (case k_Bakery___init__ => k_is)
    (case a_Bakery_bakes => k_is)
    (case pg_Bakery_bakes => k_is)
    (case pt_Bakery_bakes => k_is)
    (case pr1_Bakery_bakes => k_is)
    (case l_Bakery_bakes => k_is)
    (case q_Bakery_bakes => k_is)
    (case k_Bakery_bakes => k_is)
    (case a_Bakery_sold => k_is)
    (case i_Bakery_sold => k_is)
    (case l_Bakery_sold => k_is)
    (case q_Bakery_sold => k_is)
    (case k_Bakery_sold => k_is)
    (case a_Bakery_missed => k_is)
    (case i_Bakery_missed => k_is)
    (case l_Bakery_missed => k_is)
    (case q_Bakery_missed => k_is)
    (case k_Bakery_missed => k_is)
    (case a_Bakery_thrown => k_is)
    (case i_Bakery_thrown => k_is)
    (case l_Bakery_thrown => k_is)
    (case q_Bakery_thrown => k_is)
    (case k_Bakery_thrown => k_is)
    (case a__law_start => k_is)
    (case l__law_start => k_is)
    (case q__law_start => k_is)
    (case k__law_start => k_is)
    (case a__law_drawn => k_is)
    (case l__law_drawn => k_is)
    (case q__law_drawn => k_is)
    (case k__law_drawn => k_is)
    (case a__law_same => k_is)
    (case l__law_same => k_is)
    (case q__law_same => k_is)
    (case k__law_same => k_is)
    (case a__law_outcome => k_is)
    (case l__law_outcome => k_is)
    (case q__law_outcome => k_is)
    (case k__law_outcome => k_is)
    (case a__law_amounts => k_is)
    (case l__law_amounts => k_is)
    (case q__law_amounts => k_is)
    (case k__law_amounts => k_is)
    (case a__law_grouped => k_is)
    (case l__law_grouped => k_is)
    (case q__law_grouped => k_is)
    (case k__law_grouped => k_is)
    (case a__law_line => k_is)
    (case l__law_line => k_is)
    (case q__law_line => k_is)
    (case k__law_line => k_is)
    (case a__law_number => k_is)
    (case l__law_number => k_is)
    (case q__law_number => k_is)
    (case k__law_number => k_is)
    (case a__law_read => k_is)
    (case l__law_read => k_is)
    (case q__law_read => k_is)
    (case k__law_read => k_is)
    (case a__law_changed => k_is)
    (case l__law_changed => k_is)
    (case q__law_changed => k_is)
    (case k__law_changed => k_is)
    (case a_law => k_is)
    (case l_law => k_is)
    (case q_law => k_is)
    (case lc_law => k_is)
    (case he_law => rfl)
    (case ch_law => kernel_rfl)
    (case nt_law => kernel_rfl)
    (case ht_law => exact PySem.W.km_tabs_of Y _ (by decide))
    (case k_law => k_is)
