import PyProof.Rows.All
import Wide.All
import OpenK.AllK
import Wide.FinOn
import HandS.ForMost
import KE.GoesMore
import KE.GoesEnum
import KE.KTupSum
import HandS.Evl
import HandS.TupAny
import HandS.Wide
import HandS.Style
import HandS.Property
import HandS.ClsMeth
import HandS.WideBits
import HandS.Steps
import HandS.Walk
import HandS.Strs
import HandS.SetFor
import HandS.IsInst
import KE.KLam
import HandS.Codes
import HandS.TryOnly
import HandS.Lambda
import HandS.Nested
import HandS.EndTab
import HandS.EndOwn
import HandS.ExcInit
import HandS.ExcOwn
import HandS.ExcField
import HandS.ExcIs
import HandS.WordsExc
import HandS.FStr
import KE.KSuper
import KE.KExcSuper
import KE.KExcIs
import HandS.TupMul
import HandS.Small
import HandS.Flow
import HandS.Flt
import HandS.Star
import KE.KOpsOwn
import HandS.RevRange
import HandS.Conv
import KE.GoesComp
import KE.GoesEnumKw
import HandS.StrMore
import HandS.ReplaceLit
import HandS.Zip
import PyProof.FString3
import HandS.TryMany
import HandS.GenCall
import HandS.GenList
import HandS.Defaults
import HandS.MakeKw
import HandS.MakeKwOnly
import PySem.Challenge.RW_staleloaves_k41_rules_day_by_day
set_option Elab.async false
set_option linter.all false
set_option maxRecDepth 100000
set_option maxHeartbeats 4000000
namespace Sw
open PySem PySem.Spec PyProof.Rows L2
/-! ### zip of a tuple, a tuple and a list; enumerate of a tuple -/
def Itz3 (K : PySem.W.Frag) (a b c : Addr) : It :=
  ⟨fun i H => ∃ (xs ys zs : List V) (x y z : V), SqT K H a xs ∧ SqT K H b ys ∧ SqL K H c zs ∧ xs[i]? = some x ∧ ys[i]? = some y ∧ zs[i]? = some z,
    fun i H v H' => ∃ T x y z, v = .ref T ∧ H T = none ∧ H' = upd H T (.tup [x, y, z]) ∧ (∀ xs, SqT K H a xs → xs[i]? = some x) ∧ (∀ ys, SqT K H b ys → ys[i]? = some y) ∧ ∀ zs, SqL K H c zs → zs[i]? = some z,
    fun i H => ∃ xs ys zs : List V, SqT K H a xs ∧ SqT K H b ys ∧ SqL K H c zs ∧ xs.length = i ∧ ys.length = i ∧ zs.length = i⟩
theorem turn_zip3 {P : Program} {w : World} {K : PySem.W.Frag} {elts : List Expr} {kk : Nat} {tpos : Pos} {a b c z TI TO i1 i2 i3 : Addr}
    (D : ZipSep3 z TI TO i1 i2 i3 [i1, a] [i2, b] [i3, c]) (h1a : a ≠ i1) (h2b : b ≠ i2) (h3c : c ≠ i3) :
    Turn P w K (.Tuple elts kk tpos) (Itz3 K a b c) [z, TI, TO, i1, i2, i3] z (fun i h => IsZip h z TI TO .none ∧ IsTupOf3 h TI (.ref i1) (.ref i2) (.ref i3) ∧ (∃ x y u, IsTupOf3 h TO x y u) ∧ h.IsTupleIter i1 a i ∧ h.IsTupleIter i2 b i ∧ h.IsListIter i3 c i) where
  mem := by simp
  obj := fun i h st d hd => by
    obtain ⟨hz, hTI, ⟨x, y, u, hTO⟩, ⟨o1, e1, _, d1⟩, ⟨o2, e2, _, d2⟩, ⟨o3, e3, _, d3⟩⟩ := st
    have e' : d = z ∨ d = TI ∨ d = TO ∨ d = i1 ∨ d = i2 ∨ d = i3 := by simpa using hd
    rcases e' with q | q | q | q | q | q
    · rw [q]; exact ⟨_, hz, fun v q => nomatch q⟩
    · rw [q]; exact ⟨_, hTI, fun v q => nomatch q⟩
    · rw [q]; exact ⟨_, hTO, fun v q => nomatch q⟩
    · rw [q]; exact ⟨o1, e1, fun v q => by rw [d1] at q; cases q⟩
    · rw [q]; exact ⟨o2, e2, fun v q => by rw [d2] at q; cases q⟩
    · rw [q]; exact ⟨o3, e3, fun v q => by rw [d3] at q; cases q⟩
  keep := fun i h h' st k => by
    obtain ⟨hz, hTI, ⟨x, y, u, hTO⟩, h1, h2, h3⟩ := st
    exact ⟨k z (by simp) _ hz, k TI (by simp) _ hTI, ⟨x, y, u, k TO (by simp) _ hTO⟩, h1.at fun o q => k i1 (by simp) o q, h2.at fun o q => k i2 (by simp) o q, h3.at fun o q => k i3 (by simp) o q⟩
  item := by
    intro X hP hw hK hc i pins s σ H E I hf st hg
    subst hP hw hK
    obtain ⟨hz, hTI, ⟨x0, y0, u0, hTO⟩, h1, h2, h3⟩ := st
    obtain ⟨xs, ys, zs, x, y, u, hqx, hqy, hqz, hx, hy, hu⟩ := hg
    obtain ⟨its, rv, p, _⟩ := I.tuple hqx
    obtain ⟨its2, rv2, p2, _⟩ := I.tuple hqy
    obtain ⟨its3, rv3, p3, _⟩ := I.list hqz
    obtain ⟨u1, hu1, ru1⟩ := rv.get hx
    obtain ⟨u2, hu2, ru2⟩ := rv2.get hy
    obtain ⟨u3, hu3, ru3⟩ := rv3.get hu
    have hh : X.A.in1.handled = none := I.ok.hd hc
    have D1 := Draws.tuple (prog := X.prog) (w := X.w) (A := X.A.in1) hh i1 a h1a its.toArray
    have D2 := Draws.tuple (prog := X.prog) (w := X.w) (A := X.A.in1) hh i2 b h2b its2.toArray
    have D3 := Draws.list (prog := X.prog) (w := X.w) (A := X.A.in1) hh i3 c h3c its3.toArray
    have hzl : z < s.heap.objs.size := Heap.lt_size hz
    have lt1 : i < its.toArray.size := by simpa using (List.getElem?_eq_some_iff.mp hu1).1
    have lt2 : i < its2.toArray.size := by simpa using (List.getElem?_eq_some_iff.mp hu2).1
    have lt3 : i < its3.toArray.size := by simpa using (List.getElem?_eq_some_iff.mp hu3).1
    refine wpAny_pyNext_zipD3_item D D1 D2 D3 hz hTI hTO ⟨h1, p⟩ ⟨h2, p2⟩ ⟨h3, p3.isList⟩ lt1 lt2 lt3 fun x1 x2 x3 h' tk q1 q2 q3 z' TO' s1' s2' s3' hT hsz hk => ?_
    have e1 : x1 = u1 := by have q : its[i]? = some x1 := by simpa using q1
                            rw [hu1] at q; exact (Option.some.inj q).symm
    have e2 : x2 = u2 := by have q : its2[i]? = some x2 := by simpa using q2
                            rw [hu2] at q; exact (Option.some.inj q).symm
    have e3 : x3 = u3 := by have q : its3[i]? = some x3 := by simpa using q3
                            rw [hu3] at q; exact (Option.some.inj q).symm
    subst e1 e2 e3
    refine ⟨_, rfl, wpAny_letOwnedTupleGo_zip (s := { s with heap := h', toks := tk }) z' fun h'' z'' sb => ?_⟩
    have hT2 : h''.get? s.heap.objs.size = some { cls := .type "tuple", data := .seq #[x1, x2, x3] } := (sb.2 _ (Nat.ne_of_gt hzl)).trans hT
    have new : ObjOk X.prog X.w (upd H s.heap.objs.size (.tup [x, y, u])) h'' s.heap.objs.size (.tup [x, y, u]) :=
      ⟨by show 3 ≤ sizeLine; decide, [x1, x2, x3], .cons ru1 (.cons ru2 (.cons ru3 .nil)), ⟨_, hT2, rfl, _, rfl⟩⟩
    have I1 : Inv X pins σ (upd H s.heap.objs.size (.tup [x, y, u])) { s with heap := h'', toks := tk } :=
      I.turnedNew (t' := tk) (ch := [z, TI, TO, i1, i2, i3]) (fun d o hb q => (sb.2 d (fun q' => hb (by simp [q']))).trans (hk d o (fun q' => hb (by simp [q'])) (fun q' => hb (by simp [q'])) (fun q' => hb (by simp [q'])) (fun q' => hb (by simp [q'])) (fun q' => hb (by simp [q'])) q)) hf (Nat.le_refl _) new
    refine ⟨.ref s.heap.objs.size, _, I1, rfl, ⟨_, x, y, u, rfl, I.hok.fresh (Nat.le_refl _), rfl, fun l hl => by rw [I.tuple_inj hl hqx]; exact hx, fun l hl => by rw [I.tuple_inj hl hqy]; exact hy, fun l hl => by rw [I.list_inj hl hqz]; exact hu⟩, ⟨z'', ?_, ⟨x1, x2, x3, ?_⟩, ?_, ?_, ?_⟩, fun d hdm => ?_⟩
    · exact (sb.2 _ D.TIz).trans (hk _ _ D.TIz D.TITO D.TIi1 D.TIi2 D.TIi3 hTI)
    · exact (sb.2 _ D.TOz).trans TO'
    · exact s1'.1.at fun o q => (sb.2 _ D.zi1.symm).trans q
    · exact s2'.1.at fun o q => (sb.2 _ D.zi2.symm).trans q
    · exact s3'.1.at fun o q => (sb.2 _ D.zi3.symm).trans q
    · have hlt : d < s.heap.objs.size := by
        have e' : d = z ∨ d = TI ∨ d = TO ∨ d = i1 ∨ d = i2 ∨ d = i3 := by simpa using hdm
        rcases e' with q | q | q | q | q | q
        · rw [q]; exact hzl
        · rw [q]; exact Heap.lt_size hTI
        · rw [q]; exact Heap.lt_size hTO
        · rw [q]; obtain ⟨_, e1, _⟩ := h1; exact Heap.lt_size e1
        · rw [q]; obtain ⟨_, e2, _⟩ := h2; exact Heap.lt_size e2
        · rw [q]; obtain ⟨_, e3, _⟩ := h3; exact Heap.lt_size e3
      rw [upd_ne (Nat.ne_of_lt hlt)]
      exact (hf d hdm).1
  done := by
    intro X hP hw hK hc i pins s σ H E I hf st hg
    subst hP hw hK
    obtain ⟨hz, hTI, ⟨x0, y0, u0, hTO⟩, h1, h2, h3⟩ := st
    obtain ⟨xs, ys, zs, hqx, hqy, hqz, l1, l2, l3⟩ := hg
    obtain ⟨its, rv, p, _⟩ := I.tuple hqx
    obtain ⟨its2, rv2, p2, _⟩ := I.tuple hqy
    obtain ⟨its3, rv3, p3, _⟩ := I.list hqz
    have m1 : i = its.toArray.size := by have := rv.length; simp; omega
    have m2 : i = its2.toArray.size := by have := rv2.length; simp; omega
    have m3 : i = its3.toArray.size := by have := rv3.length; simp; omega
    have hh : X.A.in1.handled = none := I.ok.hd hc
    have D1 := Draws.tuple (prog := X.prog) (w := X.w) (A := X.A.in1) hh i1 a h1a its.toArray
    have D2 := Draws.tuple (prog := X.prog) (w := X.w) (A := X.A.in1) hh i2 b h2b its2.toArray
    have D3 := Draws.list (prog := X.prog) (w := X.w) (A := X.A.in1) hh i3 c h3c its3.toArray
    exact wpAny_pyNext_zipD3_end D D1 D2 D3 hz hTI hTO ⟨h1, p⟩ ⟨h2, p2⟩ ⟨h3, p3.isList⟩ (Nat.le_of_eq m1) (Nat.le_of_eq m2) (Nat.le_of_eq m3) (.inl m1) fun h' tk hk => ⟨rfl, I.turnedL (t' := tk) (ch := [z, TI, TO, i1, i2, i3]) (fun d o hb q =>
      hk d o (fun q' => hb (by simp [q'])) (fun q' => hb (by simp [q'])) (fun q' => hb (by simp [q'])) (fun q' => hb (by simp [q'])) (fun q' => hb (by simp [q'])) q) hf⟩
  self := fun A i s Q E st h => wpAny_pyIter_zip st.1 h
def iZip3 (K : PySem.W.Frag) (ta : TA) : TI := fun σ H R => ta σ H fun vs H1 => ∃ a b c xs ys zs, vs = [.ref a, .ref b, .ref c] ∧ SqT K H1 a xs ∧ SqT K H1 b ys ∧ SqL K H1 c zs ∧ R (Itz3 K a b c) H1
theorem pi_zip3 {X : Cx} {e e2 e3 : Expr} {ta : TA} {p pos tpos : Pos} {elts : List Expr} {kk : Nat} (hg : Gl X "zip") (hm : X.mg "zip" = none) (ha : PA X [e, e2, e3] ta)
    (hs : starEach [e, e2, e3] X.env = (false, eval e X.env) :: starEach [e2, e3] X.env := by rfl) (hpl : (backTo pos (starEach [e2, e3] X.env)).any (·.1) = false := by rfl) :
    PI X (.Tuple elts kk tpos) (.Call (.Name "zip" p) [e, e2, e3] [] pos) (iZip3 X.K ta) := by
  refine ⟨fun pins s σ H R I h => ?_⟩
  refine Call_ (ld_blt I hg hm PyProof.Rows.boot_zip (PyProof.Rows.callWith_type1 (thn (ha.run pos pins s σ H _ I h) fun us s1 ⟨vs, H1, I1, r1, q1⟩ => ?_) hs hpl))
  obtain ⟨a, b, c, xs, ys, zs, ex, hqx, hqy, hqz, q⟩ := q1
  subst ex
  cases r1 with
  | cons r rr =>
    cases rr with
    | cons r' rr =>
      cases rr with
      | cons r'' rr =>
        cases rr
        cases r
        cases r'
        cases r''
        obtain ⟨its, rv, p1, _⟩ := I1.tuple hqx
        obtain ⟨its2, rv2, p2, _⟩ := I1.tuple hqy
        obtain ⟨its3, rv3, p3, _⟩ := I1.list hqz
        have la : a < s1.heap.objs.size := p1.lt
        have lb : b < s1.heap.objs.size := p2.lt
        have lc : c < s1.heap.objs.size := p3.lt
        refine zip_begins3 (begins_tuple a its.toArray) (begins_tuple b its2.toArray) (begins_list c its3.toArray) p1 p2 p3.isList fun h' hz hTI hTO h1 h2 h3 hsz hk => wpAny_pyIter_zip hz ?_
        have I2 : Inv X pins σ H1 { s1 with heap := h' } := I1.kept (t' := s1.toks) hk
        have sep : ZipSep3 (s1.heap.objs.size + 5) (s1.heap.objs.size + 3) (s1.heap.objs.size + 4) s1.heap.objs.size (s1.heap.objs.size + 1) (s1.heap.objs.size + 2) [s1.heap.objs.size, a] [s1.heap.objs.size + 1, b] [s1.heap.objs.size + 2, c] :=
          zip_sep3 (N := s1.heap.objs.size) (fp1 := [a]) (fp2 := [b]) (fp3 := [c]) (fun d hd => by rw [List.mem_singleton.mp hd]; exact la) (fun d hd => by rw [List.mem_singleton.mp hd]; exact lb) (fun d hd => by rw [List.mem_singleton.mp hd]; exact lc)
        refine ⟨s1.heap.objs.size + 5, [s1.heap.objs.size + 5, s1.heap.objs.size + 3, s1.heap.objs.size + 4, s1.heap.objs.size, s1.heap.objs.size + 1, s1.heap.objs.size + 2], _, _, H1, rfl, I2,
          turn_zip3 sep (Nat.ne_of_lt la) (Nat.ne_of_lt (Nat.lt_succ_of_lt lb)) (Nat.ne_of_lt (Nat.lt_succ_of_lt (Nat.lt_succ_of_lt lc))), ⟨hz, hTI, ⟨_, _, _, hTO⟩, ⟨_, h1, rfl, rfl⟩, ⟨_, h2, rfl, rfl⟩, ⟨_, h3, rfl, rfl⟩⟩, fun d hdm => ?_, q⟩
        have e' : d = s1.heap.objs.size + 5 ∨ d = s1.heap.objs.size + 3 ∨ d = s1.heap.objs.size + 4 ∨ d = s1.heap.objs.size ∨ d = s1.heap.objs.size + 1 ∨ d = s1.heap.objs.size + 2 := by simpa using hdm
        have hle : s1.heap.objs.size ≤ d := by
          rcases e' with z | z | z | z | z | z
          · rw [z]; exact Nat.le_add_right _ _
          · rw [z]; exact Nat.le_add_right _ _
          · rw [z]; exact Nat.le_add_right _ _
          · rw [z]; exact Nat.le_refl _
          · rw [z]; exact Nat.le_add_right _ _
          · rw [z]; exact Nat.le_add_right _ _
        exact I1.fpOk hle (I1.hok.fresh hle)
/-- the tuple at a, each item in a new pair with its number -/
def IteT (K : PySem.W.Frag) (a : Addr) : It :=
  ⟨fun i H => ∃ (xs : List V) (x : V), SqT K H a xs ∧ xs[i]? = some x, fun i H v H' => ∃ T x, v = .ref T ∧ H T = none ∧ H' = upd H T (.tup [.int (i : Nat), x]) ∧ ∀ xs, SqT K H a xs → xs[i]? = some x, fun i H => ∃ xs : List V, SqT K H a xs ∧ xs.length = i⟩
theorem turn_enumT {P : Program} {w : World} {K : PySem.W.Frag} {elts : List Expr} {kk : Nat} {tpos : Pos} (a e it : Addr) (hai : a ≠ it) (hae : e ≠ a) :
    Turn P w K (.Tuple elts kk tpos) (IteT K a) [e, it] e (fun i h => (∃ old, IsEnum h e it ((i : Nat) : Int) old) ∧ h.IsTupleIter it a i ∧ e ≠ it) where
  mem := by simp
  obj := fun i h st b hb => by
    obtain ⟨⟨old, he⟩, ⟨o, ho, hc, hd⟩, _⟩ := st
    have e' : b = e ∨ b = it := by simpa using hb
    rcases e' with z | z
    · rw [z]; exact ⟨_, he, fun v q => nomatch q⟩
    · rw [z]; exact ⟨o, ho, fun v q => by rw [hd] at q; cases q⟩
  keep := fun i h h' st k => let ⟨⟨old, he⟩, hi, hne⟩ := st; ⟨⟨old, k e (by simp) _ he⟩, hi.at fun o q => k it (by simp) o q, hne⟩
  item := by
    intro X hP hw hK hc i pins s σ H E I hf st hg
    subst hP hw hK
    obtain ⟨⟨old, he⟩, hit, hne⟩ := st
    obtain ⟨xs, x, hq, hx⟩ := hg
    obtain ⟨its, rv, p, hz⟩ := I.tuple hq
    obtain ⟨u, hu, ru⟩ := rv.get hx
    have hel : e < s.heap.objs.size := Heap.lt_size he
    have hil : it < s.heap.objs.size := by obtain ⟨_, q, _⟩ := hit; exact Heap.lt_size q
    have hh : X.A.in1.handled = none := I.ok.hd hc
    have D1 := Draws.tuple (prog := X.prog) (w := X.w) (A := X.A.in1) hh it a hai its.toArray
    have lt1 : i < its.toArray.size := by simpa using (List.getElem?_eq_some_iff.mp hu).1
    have hef : e ∉ [it, a] := by simp [hne, hae]
    refine wpAny_pyNext_enum_itemD D1 he ⟨hit, p⟩ lt1 hne hef fun x1 h' tk q1 ho st' hT hsz hk => ?_
    have e1 : x1 = u := by have q : its[i]? = some x1 := by simpa using q1
                           rw [hu] at q; exact (Option.some.inj q).symm
    subst e1
    refine ⟨_, rfl, wpAny_letOwnedTupleGo_enum (s := { s with heap := h', toks := tk + 1 }) ho fun h'' he' sb => ?_⟩
    have hT2 : h''.get? s.heap.objs.size = some { cls := .type "tuple", data := .seq #[.int i tk, x1] } := (sb.2 _ (Nat.ne_of_gt hel)).trans hT
    have new : ObjOk X.prog X.w (upd H s.heap.objs.size (.tup [.int (i : Nat), x])) h'' s.heap.objs.size (.tup [.int (i : Nat), x]) :=
      ⟨by show 2 ≤ sizeLine; decide, [.int i tk, x1], .cons ⟨_, rfl⟩ (.cons ru .nil), ⟨_, hT2, rfl, _, rfl⟩⟩
    have I1 : Inv X pins σ (upd H s.heap.objs.size (.tup [.int (i : Nat), x])) { s with heap := h'', toks := tk + 1 } :=
      I.turnedNew (ch := [e, it]) (fun b ob hb q => (sb.2 b (fun z => hb (by simp [z]))).trans (hk b ob (fun z => hb (by simp [z])) (fun z => hb (by simp [z])) q)) hf (Nat.le_refl _) new
    refine ⟨.ref s.heap.objs.size, _, I1, rfl, ⟨_, x, rfl, I.hok.fresh (Nat.le_refl _), rfl, fun ys hy => by rw [I.tuple_inj hy hq]; exact hx⟩, ⟨⟨x1, ?_⟩, st'.1.at fun o q => (sb.2 it (Ne.symm hne)).trans q, hne⟩, fun b hb => ?_⟩
    · have e1 : ((i + 1 : Nat) : Int) = (i : Int) + 1 := by omega
      rw [e1]; exact he'
    · have hb' : b < s.heap.objs.size := by
        have e' : b = e ∨ b = it := by simpa using hb
        rcases e' with z | z
        · rw [z]; exact hel
        · rw [z]; exact hil
      rw [upd_ne (Nat.ne_of_lt hb')]
      exact (hf b hb).1
  done := by
    intro X hP hw hK hc i pins s σ H E I hf st hg
    subst hP hw hK
    obtain ⟨⟨old, he⟩, hit, hne⟩ := st
    obtain ⟨xs, hq, hx⟩ := hg
    obtain ⟨its, rv, p, hz⟩ := I.tuple hq
    obtain ⟨f0, f1, f2, f3, f4, f5⟩ := hf it (by simp)
    have hh : X.A.in1.handled = none := I.ok.hd hc
    have D1 := Draws.tuple (prog := X.prog) (w := X.w) (A := X.A.in1) hh it a hai its.toArray
    have m1 : its.toArray.size = i := by have := rv.length; simp; omega
    refine wpAny_pyNext_enum_endD D1 he ⟨by rw [m1]; exact hit, p⟩ fun h' eb => ⟨rfl, I.turned (t' := s.toks) (fun b o hb q => eb b o hb q) f0 f1 f3 f4 f5⟩
  self := fun A i s Q E st h => let ⟨⟨_, he⟩, _⟩ := st; wpAny_pyIter_enum he h

theorem meets_enumerate_newB1 {v : Value} {o : Obj} {H : Heap → Prop} (B : Begins v o H) :
    Meets (Builtin.«enumerate.__new__» ⟨[.type "enumerate", v], []⟩) (fun _ R s => H s.heap ∧
      R (.ok (.ret (.ref (s.heap.push o).objs.size))) { s with heap := (s.heap.push o).push { cls := .type "enumerate", data := .fields #[.none, .bool false, .ref s.heap.objs.size, rawInt 0, .none, .none] } }) :=
  .of_wp fun prog w A R s h => by
    obtain ⟨hp, g, d, tk, os⟩ := s; obtain ⟨h1, h⟩ := h
    have hsub := sub_enumerate
    have q1 : ∀ {A' : Around} {E : Value → Shared → Prop} {Q : Value → Shared → Prop}, Q (.ref hp.objs.size) ⟨hp.push o, g, d, tk, os⟩ → wpAny (model prog w) A' (pyIter v) Q E ⟨hp, g, d, tk, os⟩ :=
      fun q => B.iter prog w _ _ ⟨hp, g, d, tk, os⟩ _ h1 q
    wp_walk using q1
    refine wpAny_stack_any fun st => wpAny_pure ?_
    split
    · rename_i c _ _ _ _ _
      cases (c == Value.type "enumerate")
      · wp_walk using q1
        exact ⟨_, rfl, h⟩
      · wp_walk using q1
        exact ⟨_, rfl, h⟩
    · wp_walk using q1
      exact ⟨_, rfl, h⟩
theorem enum_begins1 {prog : Program} {w : World} {A : Around} {E : Value → Shared → Prop} {s : Shared} {v : Value} {o : Obj} {H : Heap → Prop} {Q : Value → Shared → Prop} (B : Begins v o H) (h1 : H s.heap)
    (h : ∀ h', IsEnum h' (s.heap.objs.size + 1) s.heap.objs.size 0 .none → h'.get? s.heap.objs.size = some o → h'.objs.size = s.heap.objs.size + 2 →
      (∀ b o, s.heap.get? b = some o → h'.get? b = some o) → Q (.ref (s.heap.objs.size + 1)) { s with heap := h' }) :
    wpAny (model prog w) A (call (.type "enumerate") [v]) Q E s := by
  refine callType_new F.called_enumerate (by decide) (F.typeCall_enumerate_1 _) (F.newCall_enumerate_1 _) (fun obj => F.args_object_init_2 obj _) F.entry_enumerate_new
    (meets_enumerate_newB1 B) ⟨h1, ?_⟩
  have hz : (s.heap.push o).objs.size = s.heap.objs.size + 1 := Heap.size_push ..
  show _ ∧ _
  rw [hz]
  have he : IsEnum ((s.heap.push o).push { cls := .type "enumerate", data := .fields #[.none, .bool false, .ref s.heap.objs.size, rawInt 0, .none, .none] }) (s.heap.objs.size + 1) s.heap.objs.size 0 .none := by
    have := Heap.get?_push_size (s.heap.push o) (o := { cls := .type "enumerate", data := .fields #[.none, .bool false, .ref s.heap.objs.size, rawInt 0, .none, .none] }) rfl
    rw [hz] at this; exact this
  refine ⟨⟨_, he, rfl⟩, h _ he (Heap.get?_push_of_some _ (Heap.get?_push_size _ B.free)) (by rw [Heap.size_push, hz]) fun b o x => Heap.get?_push_of_some _ (Heap.get?_push_of_some _ x)⟩
def iEnumT (K : PySem.W.Frag) (ta : TA) : TI := fun σ H R => ta σ H fun vs H1 => ∃ a xs, vs = [.ref a] ∧ SqT K H1 a xs ∧ R (IteT K a) H1
theorem pi_enumT {X : Cx} {e : Expr} {ta : TA} {p pos tpos : Pos} {elts : List Expr} {kk : Nat} (hg : Gl X "enumerate") (hm : X.mg "enumerate" = none) (ha : PA X [e] ta) (hs : starEach [e] X.env = [(false, eval e X.env)] := by rfl) :
    PI X (.Tuple elts kk tpos) (.Call (.Name "enumerate" p) [e] [] pos) (iEnumT X.K ta) := by
  refine ⟨fun pins s σ H R I h => ?_⟩
  refine Call_ (ld_blt I hg hm boot_enumerate (PyProof.Rows.callWith_type1 (thn (ha.run pos pins s σ H _ I h) fun us s1 ⟨vs, H1, I1, r1, q1⟩ => ?_) hs rfl))
  obtain ⟨a, xs, ex, hq, q⟩ := q1
  subst ex
  cases r1 with
  | cons r rr =>
    cases rr
    cases r
    obtain ⟨its, rv, p', hz⟩ := I1.tuple hq
    have la : a < s1.heap.objs.size := p'.lt
    refine enum_begins1 (begins_tuple a its.toArray) p' fun h' he hit hsz hk => wpAny_pyIter_enum he ?_
    have I2 : Inv X pins σ H1 { s1 with heap := h' } := I1.kept (t' := s1.toks) hk
    refine ⟨s1.heap.objs.size + 1, [s1.heap.objs.size + 1, s1.heap.objs.size], _, _, H1, rfl, I2, turn_enumT a (s1.heap.objs.size + 1) s1.heap.objs.size (Nat.ne_of_lt la) (Nat.ne_of_gt (Nat.lt_succ_of_lt la)), ⟨⟨.none, he⟩, ⟨_, hit, rfl, rfl⟩, Nat.succ_ne_self _⟩, fun b hb => ?_, q⟩
    have e' : b = s1.heap.objs.size + 1 ∨ b = s1.heap.objs.size := by simpa using hb
    have hle : s1.heap.objs.size ≤ b := by
      rcases e' with z | z
      · rw [z]; exact Nat.le_add_right _ _
      · rw [z]; exact Nat.le_refl _
    exact I1.fpOk hle (I1.hok.fresh hle)
end Sw
namespace Sw
open PySem PySem.Spec PyProof.Rows L2 Evl
/-! ### more rules: sum of a tuple -/
section
variable {X : Cx}
def rSumT (K : PySem.W.Frag) : List V → Hp → VK → Prop := fun vs H Q => ∃ (a : Addr) (ns : List Int), vs = [V.ref a] ∧ SqT K H a (ns.map V.int) ∧ Q (.int ns.sum) H
theorem cr_sumT (hc : X.calm = true) : CallR X (.builtin "sum") (rSumT X.K) := by
  intro pins s σ H vs us Q I r h
  obtain ⟨a, ns, rfl, hs, q⟩ := h
  obtain ⟨its, rv, hl, _⟩ := I.tuple hs
  rw [Vals.ref1 r]
  obtain ⟨xs, e⟩ := rv.ints.allInts.items
  have hn : numsOf (intItems xs).toList = ns := by rw [← e]; exact rv.ints.numsOf
  rw [nums_intItems] at hn
  have hl' : s.heap.IsTuple a (intItems xs) := by rw [← e]; exact hl
  refine PySem.W.ktm_sumG (I.ok.hd hc) hl' fun h' tk t' hk => ⟨.int ns.sum, H, I.kept hk, ⟨t', ?_⟩, q⟩
  rw [preSum_eq, List.take_of_length_le (by simp), hn]
theorem ps_no {st : Stmt} : PS X st (fun _ _ _ => False) := ⟨fun _ _ _ _ _ _ h => h.elim⟩
end
/-! ### what they evaluate to -/
section
variable {K : PySem.W.Frag} {σ : L2.St} {H H' : Hp} {ta tb te tx : TE} {x y z v : V}
theorem ev_sumN {ns : List Int} (h : EvL ta σ H (ns.map V.int)) : Ev (tCB (rSum K) (tCons ta tNil)) σ H (.int ns.sum) := fun H1 e Q q =>
  h H1 e _ fun p H2 _ e2 h2 => ⟨p, ns, rfl, sq_of h2, q H2 e2⟩
theorem ev_sumL {a : Addr} {ns : List Int} (h : Ev ta σ H (.ref a)) (hx : SqL K H a (ns.map V.int)) : Ev (tCB (rSum K) (tCons ta tNil)) σ H (.int ns.sum) := fun H1 e Q q =>
  h H1 e _ fun H2 e2 => ⟨a, ns, rfl, ex_l (e.trans e2) hx, q H2 e2⟩
theorem ev_sumT {a : Addr} {ns : List Int} (h : Ev ta σ H (.ref a)) (hx : SqT K H a (ns.map V.int)) : Ev (tCB (rSumT K) (tCons ta tNil)) σ H (.int ns.sum) := fun H1 e Q q =>
  h H1 e _ fun H2 e2 => ⟨a, ns, rfl, ex_t (e.trans e2) hx, q H2 e2⟩
theorem ev_lenT {a : Addr} {xs : List V} (h : Ev ta σ H (.ref a)) (hx : SqT K H a xs) : Ev (tCB (rLenS K) (tCons ta tNil)) σ H (.int (xs.length : Int)) := fun H1 e Q q =>
  h H1 e _ fun H2 e2 => ⟨a, xs, rfl, .inr (ex_t (e.trans e2) hx), q H2 e2⟩
theorem given_all (n : Nat) (v : Nat → V) : given n (fun _ => true) v = (List.range n).map v := by
  unfold given
  rw [List.filter_eq_self.mpr (fun _ _ => rfl)]
theorem et_yes : EvT tYes σ H true := fun H1 _ _ q => q H1 (Ex.refl H1)
/-- the comprehension over range(n), no test -/
theorem el_lcR {ta : TA} {j : Nat} {vs : List Nat} {n : Int} (v : Nat → V) (h : EvA ta σ H [.int n]) (hn : 0 ≤ n ∧ n ≤ 40000) (hw : ∀ x, wipe ((wipe σ vs).set j (some x)) vs = wipe σ vs)
    (he : ∀ (i : Nat) H1, Ex H H1 → (i : Int) < n → Ev te ((wipe σ vs).set j (some (.int (i : Int)))) H1 (v i)) :
    EvL (tLc (iRng1 ta) (gName j) tYes te vs) σ H ((List.range n.toNat).map v) := by
  rw [← given_all]
  exact el_lcR1 (fun _ => true) v h hn hw (fun _ _ _ _ => et_yes) (fun i H1 e hi _ => he i H1 e hi)
theorem atI_at {α : Type} {xs : List α} {i : Int} {d : α} (h0 : 0 ≤ i) (h1 : i < xs.length) : atI xs i = some (xs.getD i.toNat d) := by
  obtain ⟨j, rfl⟩ : ∃ j : Nat, i = (j : Int) := ⟨i.toNat, by omega⟩
  have hj : j < xs.length := by omega
  rw [atI_nat (v := xs[j]) (by simp [hj]), Int.toNat_natCast]
  simp [List.getD, hj]
end
end Sw
namespace Sw
open PySem PySem.Spec PyProof.Rows L2 Evl
/-! ### instances, methods, calls -/
section
variable {K : PySem.W.Frag} {σ : L2.St} {H H' : Hp} {ta tb te tx : TE} {x y z v : V} {a C dx : Addr} {fs : List (Str × V)} {f m : Str}
/-- the instance at a has the field -/
def Fl (H : Hp) (a C : Addr) (f : Str) (v : V) : Prop := ∃ dx fs, H a = some (.ins C dx fs) ∧ fs.lookup f = some v
/-- the instance at a has no such field -/
def NoF (H : Hp) (a C : Addr) (f : Str) : Prop := ∃ dx fs, H a = some (.ins C dx fs) ∧ fs.lookup f = none
theorem Fl.mono (e : Ex H H') (h : Fl H a C f v) : Fl H' a C f v := let ⟨dx, fs, h1, h2⟩ := h; ⟨dx, fs, e _ _ h1, h2⟩
theorem NoF.mono (e : Ex H H') (h : NoF H a C f) : NoF H' a C f := let ⟨dx, fs, h1, h2⟩ := h; ⟨dx, fs, e _ _ h1, h2⟩
theorem ev_fld (h : Ev ta σ H (.ref a)) (hf : Fl H a C f v) (c : Cls K C) (n : NoAttr K C f) : Ev (tFld K ta f) σ H v := fun H1 e Q q =>
  h H1 e _ fun H2 e2 => let ⟨dx, fs, h1, h2⟩ := hf; ⟨a, C, dx, fs, v, rfl, e2 _ _ (e _ _ h1), c, n, h2, q H2 e2⟩
/-- what a method's promise gives -/
theorem ev_meth {sp : Sp} {dvs vs : List V} {E : XK} {t : TA} (h : Ev ta σ H (.ref a)) (nf : NoF H a C m) (hv : EvA t σ H vs) (hs : SpV sp (.ref a :: (vs ++ dvs)) H z) : Ev (tMeth C m sp dvs E ta t) σ H z := fun H1 e Q q =>
  h H1 e _ fun H2 e2 => let ⟨dx, fs, h1, h2⟩ := nf; ⟨a, dx, fs, rfl, e2 _ _ (e _ _ h1), h2, hv H2 (e.trans e2) _ fun H3 e3 => hs H3 ((e.trans e2).trans e3) Q (fun H4 e4 => q H4 ((e2.trans e3).trans e4)) E⟩
theorem el_meth {sp : Sp} {dvs vs xs : List V} {E : XK} {t : TA} (h : Ev ta σ H (.ref a)) (nf : NoF H a C m) (hv : EvA t σ H vs) (hs : SpL sp (.ref a :: (vs ++ dvs)) H xs) : EvL (tMeth C m sp dvs E ta t) σ H xs := fun H1 e Q q =>
  h H1 e _ fun H2 e2 => let ⟨dx, fs, h1, h2⟩ := nf; ⟨a, dx, fs, rfl, e2 _ _ (e _ _ h1), h2, hv H2 (e.trans e2) _ fun H3 e3 => hs H3 ((e.trans e2).trans e3) Q (fun p H4 hp e4 h4 => q p H4 (fresh_back (e2.trans e3) hp) ((e2.trans e3).trans e4) h4) E⟩
/-- a new tuple -/
def SpU (sp : Sp) (vs : List V) (H : Hp) (xs : List V) : Prop := ∀ H1, Ex H H1 → ∀ Q : VK, (∀ p H2, H1 p = none → Ex H1 H2 → H2 p = some (.tup xs) → Q (.ref p) H2) → ∀ E : XK, sp vs H1 Q E
theorem eu_meth {sp : Sp} {dvs vs xs : List V} {E : XK} {t : TA} (h : Ev ta σ H (.ref a)) (nf : NoF H a C m) (hv : EvA t σ H vs) (hs : SpU sp (.ref a :: (vs ++ dvs)) H xs) : EvU (tMeth C m sp dvs E ta t) σ H xs := fun H1 e Q q =>
  h H1 e _ fun H2 e2 => let ⟨dx, fs, h1, h2⟩ := nf; ⟨a, dx, fs, rfl, e2 _ _ (e _ _ h1), h2, hv H2 (e.trans e2) _ fun H3 e3 => hs H3 ((e.trans e2).trans e3) Q (fun p H4 hp e4 h4 => q p H4 (fresh_back (e2.trans e3) hp) ((e2.trans e3).trans e4) h4) E⟩
theorem eu_call {sp : Sp} {dvs vs xs : List V} {E : XK} {ta : TA} (h : EvA ta σ H vs) (hs : SpU sp (vs ++ dvs) H xs) : EvU (tCall sp dvs E ta) σ H xs := fun H1 e Q q =>
  h H1 e _ fun H2 e2 => hs H2 (e.trans e2) Q (fun p H3 hp e3 h3 => q p H3 (fresh_back e2 hp) (e2.trans e3) h3) E
/-- an item of what a call hands back -/
theorem ev_ixNL {xs : List V} {i : Int} (h : EvL ta σ H xs) (hb : Ev tb σ H (.int i)) (ha : atI xs i = some v) : Ev (tOp (rIxL K) ta tb) σ H v := ev_opL1 h (fun H1 e => hb.mono e) fun p H1 hp _ => rv_ixL (K := K) (sq_of hp) ha
theorem ev_ixNU {xs : List V} {i : Int} (h : EvU ta σ H xs) (hb : Ev tb σ H (.int i)) (ha : atI xs i = some v) : Ev (tOp (rIxT K) ta tb) σ H v := fun H1 e Q q =>
  h H1 e _ fun p H2 _ e2 hp => hb H2 (e.trans e2) _ fun H3 e3 => rv_ixT (K := K) (st_of (e3 p _ hp)) ha H3 (Ex.refl H3) Q fun H4 e4 => q H4 ((e2.trans e3).trans e4)
theorem ev_ixL {p : Addr} {xs : List V} {i : Int} (h : Ev ta σ H (.ref p)) (hx : SqL K H p xs) (hb : Ev tb σ H (.int i)) (ha : atI xs i = some v) : Ev (tOp (rIxL K) ta tb) σ H v := ev_op h hb (rv_ixL hx ha)
theorem ev_ixT {p : Addr} {xs : List V} {i : Int} (h : Ev ta σ H (.ref p)) (hx : SqT K H p xs) (hb : Ev tb σ H (.int i)) (ha : atI xs i = some v) : Ev (tOp (rIxT K) ta tb) σ H v := ev_op h hb (rv_ixT hx ha)
/-- the smaller, the greater of two -/
def rMn : List V → Hp → VK → Prop := fun xs H Q => ∃ i j, xs = [.int i, .int j] ∧ Q (.int (if j < i then j else i)) H
theorem ev_min2 {i j : Int} (ha : Ev ta σ H (.int i)) (hb : Ev tb σ H (.int j)) : Ev (tCB rMn (tCons ta (tCons tb tNil))) σ H (.int (min i j)) := fun H1 e Q q =>
  ha H1 e _ fun H2 e2 => hb H2 (e.trans e2) _ fun H3 e3 => ⟨i, j, rfl, by
    have z : (if j < i then j else i) = min i j := by omega
    rw [z]; exact q H3 (e2.trans e3)⟩
theorem ev_maxi {i j : Int} (ha : Ev ta σ H (.int i)) (hb : Ev tb σ H (.int j)) : Ev (tCB rMax2 (tCons ta (tCons tb tNil))) σ H (.int (max i j)) := by
  have z : (if j > i then j else i) = max i j := by omega
  rw [← z]; exact ev_max2 ha hb
/-- divmod: a new pair -/
def rDm : List V → Hp → VK → Prop := fun xs H Q => ∃ i j, xs = [.int i, .int j] ∧ CDiv i j ∧ ∀ p, H p = none → Q (.ref p) (upd H p (.tup [.int (i / j), .int (i % j)]))
theorem eu_dm {i j : Int} (ha : Ev ta σ H (.int i)) (hb : Ev tb σ H (.int j)) (hc : CDiv i j) : EvU (tCB rDm (tCons ta (tCons tb tNil))) σ H [.int (i / j), .int (i % j)] := fun H1 e Q q =>
  ha H1 e _ fun H2 e2 => hb H2 (e.trans e2) _ fun H3 e3 => ⟨i, j, rfl, hc, fun p hp => q p _ (fresh_back (e2.trans e3) hp) ((e2.trans e3).trans (Ex.new hp)) upd_same⟩
theorem eu_tup {t : TA} {xs : List V} (h : EvA t σ H xs) (hz : xs.length ≤ 100000) : EvU (tTup t) σ H xs := fun H1 e Q q =>
  h H1 e _ fun H2 e2 => ⟨sz_of hz, fun p hp => q p _ (fresh_back e2 hp) (e2.trans (Ex.new hp)) upd_same⟩
theorem el_lst {t : TA} {xs : List V} (h : EvA t σ H xs) (hz : xs.length ≤ 100000) : EvL (tLst t) σ H xs := fun H1 e Q q =>
  h H1 e _ fun H2 e2 => ⟨sz_of hz, fun p hp => q p _ (fresh_back e2 hp) (e2.trans (Ex.new hp)) upd_same⟩
theorem Ev.int_eq {i j : Int} (h : Ev te σ H (.int i)) (e : i = j) : Ev te σ H (.int j) := e ▸ h
/-- a, b = a new pair -/
theorem s_pair {i j : Nat} {D : Ends} {x y : V} (h : EvU te σ H [x, y]) (k : ∀ H1, Ex H H1 → D.nx ((σ.set i (some x)).set j (some y)) H1) : tAsg te (gTup K 2 (gCons (gName i) (gCons (gName j) gNil))) D σ H :=
  h H (Ex.refl H) _ fun p H1 _ e hp => ⟨p, [x, y], rfl, st_of hp, rfl, x, [y], rfl, y, [], rfl, rfl, k H1 e⟩
theorem q_pair {i j : Nat} {D : Ends} {x y : V} {tz : TS} (h : EvU te σ H [x, y]) (k : ∀ H1, Ex H H1 → tz D ((σ.set i (some x)).set j (some y)) H1) : tSeq (tAsg te (gTup K 2 (gCons (gName i) (gCons (gName j) gNil)))) tz D σ H :=
  s_pair (D := { D with nx := tz D }) h k
end
/-! ### the rules with the written part named -/
section
variable {X : Cx}
theorem pe_fldK (K : PySem.W.Frag) {e : Expr} {f : Str} {pos : Pos} {ta : TE} (hK : X.K = K) (he : PE X e ta) (hb : attributeBase e f X.env (eval e X.env) = eval e X.env) : PE X (.Attribute e f pos) (tFld K ta f) := by
  subst hK; exact pe_fld he hb
theorem pi_listK (K : PySem.W.Frag) {tg l : Expr} {tl : TE} (hK : X.K = K) (hl : PE X l tl) : PI X tg l (iList K tl) := by
  subst hK; exact pi_list hl
theorem pi_tupK (K : PySem.W.Frag) {tg l : Expr} {tl : TE} (hK : X.K = K) (hl : PE X l tl) : PI X tg l (iTup K tl) := by
  subst hK; exact pi_tup hl
theorem pi_enumTK (K : PySem.W.Frag) {e : Expr} {ta : TA} {p pos tpos : Pos} {elts : List Expr} {kk : Nat} (hK : X.K = K) (hg : Gl X "enumerate") (hm : X.mg "enumerate" = none) (ha : PA X [e] ta) (hs : starEach [e] X.env = [(false, eval e X.env)] := by rfl) :
    PI X (.Tuple elts kk tpos) (.Call (.Name "enumerate" p) [e] [] pos) (iEnumT K ta) := by
  subst hK; exact pi_enumT hg hm ha hs
theorem pg_tupK (K : PySem.W.Frag) {es : List Expr} {k : Nat} {t : TGs} {n : Nat} {pos : Pos} (hK : X.K = K) (hc : X.calm = true) (h : PGs X es t)
    (hn : (assignEach es X.env).length = n := by rfl) (hst : (assignEach es X.env).findIdx? (·.1) = none := by rfl) : PG X (.Tuple es k pos) (gTup K n t) := by
  subst hK; exact pg_tup hc h hn hst
end
/-! ### the promises' shapes -/
def RetU (xs : List V) (H : Hp) (Q : VK) : Prop := ∀ p H2, H p = none → Ex H H2 → H2 p = some (.tup xs) → Q (.ref p) H2
end Sw
namespace Sw
open PySem PySem.Spec PyProof.Rows L2 Evl
section
variable {K : PySem.W.Frag} {σ : L2.St} {H H' : Hp} {ta tb te tx : TE} {x y z v : V} {a C dx : Addr} {fs : List (Str × V)} {f m : Str} {D : Ends} {tz : TS}
/-- o.f = e -/
theorem q_fld (h : Ev te σ H v) (ho : ∀ H1, Ex H H1 → Ev ta σ H1 (.ref a)) (hx : H a = some (.ins C dx fs)) (c : Cls K C) (n : NoAttr K C f) (hl : fs.length < 1000) (k : ∀ H1, Ex H H1 → tz D σ (upd H1 a (.ins C dx (putF f v fs)))) : tSeq (sFld K ta te f) tz D σ H :=
  h H (Ex.refl H) _ fun H1 e1 => ho H1 e1 H1 (Ex.refl H1) _ fun H2 e2 => ⟨a, C, dx, fs, rfl, e2 _ _ (e1 _ _ hx), c, n, hl, k H2 (e1.trans e2)⟩
theorem s_fld (h : Ev te σ H v) (ho : ∀ H1, Ex H H1 → Ev ta σ H1 (.ref a)) (hx : H a = some (.ins C dx fs)) (c : Cls K C) (n : NoAttr K C f) (hl : fs.length < 1000) (k : ∀ H1, Ex H H1 → D.nx σ (upd H1 a (.ins C dx (putF f v fs)))) : sFld K ta te f D σ H :=
  h H (Ex.refl H) _ fun H1 e1 => ho H1 e1 H1 (Ex.refl H1) _ fun H2 e2 => ⟨a, C, dx, fs, rfl, e2 _ _ (e1 _ _ hx), c, n, hl, k H2 (e1.trans e2)⟩
theorem q_fldL {xs : List V} (h : EvL te σ H xs) (ho : ∀ H1, Ex H H1 → Ev ta σ H1 (.ref a)) (hx : H a = some (.ins C dx fs)) (c : Cls K C) (n : NoAttr K C f) (hl : fs.length < 1000) (k : ∀ p H1, H p = none → Ex H H1 → H1 p = some (.lst xs) → tz D σ (upd H1 a (.ins C dx (putF f (.ref p) fs)))) : tSeq (sFld K ta te f) tz D σ H :=
  h H (Ex.refl H) _ fun p H1 hp e1 h1 => ho H1 e1 H1 (Ex.refl H1) _ fun H2 e2 => ⟨a, C, dx, fs, rfl, e2 _ _ (e1 _ _ hx), c, n, hl, k p H2 hp (e1.trans e2) (e2 _ _ h1)⟩
theorem s_fldL {xs : List V} (h : EvL te σ H xs) (ho : ∀ H1, Ex H H1 → Ev ta σ H1 (.ref a)) (hx : H a = some (.ins C dx fs)) (c : Cls K C) (n : NoAttr K C f) (hl : fs.length < 1000) (k : ∀ p H1, H p = none → Ex H H1 → H1 p = some (.lst xs) → D.nx σ (upd H1 a (.ins C dx (putF f (.ref p) fs)))) : sFld K ta te f D σ H :=
  h H (Ex.refl H) _ fun p H1 hp e1 h1 => ho H1 e1 H1 (Ex.refl H1) _ fun H2 e2 => ⟨a, C, dx, fs, rfl, e2 _ _ (e1 _ _ hx), c, n, hl, k p H2 hp (e1.trans e2) (e2 _ _ h1)⟩
theorem s_fldU {xs : List V} (h : EvU te σ H xs) (ho : ∀ H1, Ex H H1 → Ev ta σ H1 (.ref a)) (hx : H a = some (.ins C dx fs)) (c : Cls K C) (n : NoAttr K C f) (hl : fs.length < 1000) (k : ∀ p H1, H p = none → Ex H H1 → H1 p = some (.tup xs) → D.nx σ (upd H1 a (.ins C dx (putF f (.ref p) fs)))) : sFld K ta te f D σ H :=
  h H (Ex.refl H) _ fun p H1 hp e1 h1 => ho H1 e1 H1 (Ex.refl H1) _ fun H2 e2 => ⟨a, C, dx, fs, rfl, e2 _ _ (e1 _ _ hx), c, n, hl, k p H2 hp (e1.trans e2) (e2 _ _ h1)⟩
/-- the heap, the one object at x forgotten -/
def wo (H : Hp) (x : Addr) : Hp := fun b => if b = x then none else H b
theorem wo_self {H : Hp} {x : Addr} : wo H x x = none := by unfold wo; rw [if_pos rfl]
theorem wo_ne {H : Hp} {x b : Addr} (h : b ≠ x) : wo H x b = H b := by unfold wo; rw [if_neg h]
theorem wo_ex {H : Hp} {x : Addr} : Ex (wo H x) H := fun b o h => by
  by_cases e : b = x
  · rw [e, wo_self] at h; cases h
  · rwa [wo_ne e] at h
theorem wo_t {H : Hp} {x a : Addr} {xs : List V} {o : HO} (hx : H x = some o) (ho : ∀ u v, o ≠ .frz u v) (hn : ∀ ys, o ≠ .tup ys) (h : SqT K H a xs) : SqT K (wo H x) a xs := by
  rcases h with (h | ⟨u, h⟩) | h
  · refine .inl (.inl ?_)
    rw [wo_ne]
    · exact h
    · intro e; rw [e, hx] at h; exact hn xs (Option.some.inj h)
  · refine .inl (.inr ⟨u, ?_⟩)
    rw [wo_ne]
    · exact h
    · intro e; rw [e, hx] at h; exact ho u _ (Option.some.inj h)
  · exact .inr h
end
end Sw
namespace Sw
open PySem PySem.Spec PyProof.Rows L2 Evl
/-! ### walks of three, and of a tuple's items with their numbers -/
section
variable {K : PySem.W.Frag} {σ : L2.St} {H H' : Hp} {ta tb te tx tl : TE} {x y z v : V} {a b c : Addr} {xs ys zs : List V} {n : Nat}
def YTrip (xs ys zs : List V) : Nat → Hp → V → Hp → Prop := fun i H v H' => ∃ T x y z, v = .ref T ∧ H T = none ∧ H' = upd H T (.tup [x, y, z]) ∧ xs[i]? = some x ∧ ys[i]? = some y ∧ zs[i]? = some z
theorem walk_zip3 (lx : xs.length = n) (ly : ys.length = n) (lz : zs.length = n) : Walk (Itz3 K a b c) n (fun H => SqT K H a xs ∧ SqT K H b ys ∧ SqL K H c zs) (YTrip xs ys zs) := by
  refine ⟨fun i _ hi q => ⟨xs, ys, zs, xs[i]'(by omega), ys[i]'(by omega), zs[i]'(by omega), q.1, q.2.1, q.2.2, by simp, by simp, by simp⟩, fun _ q => ⟨xs, ys, zs, q.1, q.2.1, q.2.2, lx, ly, lz⟩, fun i H v H' _ q h => ?_⟩
  obtain ⟨T, x, y, z, h1, h2, h3, h4, h5, h6⟩ := h
  exact ⟨T, x, y, z, h1, h2, h3, h4 xs q.1, h5 ys q.2.1, h6 zs q.2.2⟩
theorem walk_enumT : Walk (IteT K a) xs.length (fun H => SqT K H a xs) (YPair (fun i => some (.int (i : Nat))) (fun i => xs[i]?)) := by
  refine ⟨fun i _ hi q => ⟨xs, xs[i], q, by simp⟩, fun _ q => ⟨xs, q, rfl⟩, fun i H v H' _ q h => ?_⟩
  obtain ⟨T, x, h1, h2, h3, h4⟩ := h
  exact ⟨T, .int (i : Nat), x, h1, h2, h3, rfl, h4 xs q⟩
variable {D : Ends} {tu tz : TS}
theorem q_forZ3 {tt : TA} {j1 j2 j3 : Nat} {G : Hp} (h : EvA tt σ H [.ref a, .ref b, .ref c]) (eG : Ex G H) (hx : SqT K G a xs) (hy : SqT K G b ys) (hz : SqL K G c zs) (lx : xs.length = n) (ly : ys.length = n) (lz : zs.length = n)
    (Pv : Nat → L2.St → Hp → Prop) (h0 : ∀ H1, Ex H H1 → Pv 0 σ H1) (hG : ∀ i σ' H', i ≤ n → Pv i σ' H' → Ex G H')
    (hs : ∀ i x y z σ' H', xs[i]? = some x → ys[i]? = some y → zs[i]? = some z → Pv i σ' H' → ∀ H2, Ex H' H2 → tu { D with nx := Pv (i + 1), ct := Pv (i + 1), bk := tz D } (((σ'.set j1 (some x)).set j2 (some y)).set j3 (some z)) H2)
    (hd : ∀ σ' H', Pv n σ' H' → tz D σ' H') : tSeq (tFor (iZip3 K tt) (gTup K 3 (gCons (gName j1) (gCons (gName j2) (gCons (gName j3) gNil)))) tu) tz D σ H :=
  h H (Ex.refl H) _ fun H1 e1 => ⟨a, b, c, xs, ys, zs, rfl, ex_t (eG.trans e1) hx, ex_t (eG.trans e1) hy, ex_l (eG.trans e1) hz,
    for_it (walk_zip3 lx ly lz) Pv (h0 H1 e1) (fun i σ' H' hi p => ⟨ex_t (hG i σ' H' hi p) hx, ex_t (hG i σ' H' hi p) hy, ex_l (hG i σ' H' hi p) hz⟩)
      (fun i v σ' H' H2 hi p q => by
        obtain ⟨T, x, y, z, rfl, hT, rfl, q1, q2, q3⟩ := q
        exact ⟨T, [x, y, z], rfl, st_of upd_same, rfl, x, [y, z], rfl, y, [z], rfl, z, [], rfl, rfl, hs i x y z σ' H' q1 q2 q3 p _ (Ex.new hT)⟩) hd⟩
/-- for i, x in enumerate(t), t a tuple -/
theorem s_forEnT {tt : TA} {j1 j2 : Nat} (h : EvA tt σ H [.ref a]) (hx : SqT K H a xs)
    (Pv : Nat → L2.St → Hp → Prop) (h0 : ∀ H1, Ex H H1 → Pv 0 σ H1) (hG : ∀ i σ' H', i ≤ xs.length → Pv i σ' H' → Ex H H')
    (hs : ∀ i x σ' H', xs[i]? = some x → Pv i σ' H' → ∀ H2, Ex H' H2 → tu { D with nx := Pv (i + 1), ct := Pv (i + 1), bk := D.nx } ((σ'.set j1 (some (.int (i : Nat)))).set j2 (some x)) H2)
    (hd : ∀ σ' H', Pv xs.length σ' H' → D.nx σ' H') : tFor (iEnumT K tt) (gTup K 2 (gCons (gName j1) (gCons (gName j2) gNil))) tu D σ H :=
  h H (Ex.refl H) _ fun H1 e1 => ⟨a, xs, rfl, ex_t e1 hx,
    for_it walk_enumT Pv (h0 H1 e1) (fun i σ' H' hi p => ex_t (hG i σ' H' hi p) hx)
      (fun i v σ' H' H2 hi p q => by
        obtain ⟨T, x, y, rfl, hT, rfl, q1, q2⟩ := q
        cases q1
        exact ⟨T, [.int (i : Nat), y], rfl, st_of upd_same, rfl, .int (i : Nat), [y], rfl, y, [], rfl, rfl, hs i y σ' H' q2 p _ (Ex.new hT)⟩) hd⟩
/-- [e for i, x in enumerate(t)] -/
theorem el_lcEnT {tt : TA} {j1 j2 : Nat} {vs : List Nat} (v : Nat → V) (h : EvA tt σ H [.ref a]) (hx : SqT K H a xs) (hz : xs.length ≤ 40000)
    (hw : ∀ x y, wipe (((wipe σ vs).set j1 (some x)).set j2 (some y)) vs = wipe σ vs)
    (he : ∀ (i : Nat) (x : V) H1, Ex H H1 → xs[i]? = some x → Ev te (((wipe σ vs).set j1 (some (.int (i : Nat)))).set j2 (some x)) H1 (v i)) :
    EvL (tLc (iEnumT K tt) (gTup K 2 (gCons (gName j1) (gCons (gName j2) gNil))) tYes te vs) σ H ((List.range xs.length).map v) := fun H0 e0 Q q =>
  h H0 e0 _ fun H1 e1 => ⟨a, xs, rfl, ex_t (e0.trans e1) hx, fun Dl hD => by
    rw [← given_all] at q
    refine lc_it (walk_enumT (xs := xs)) (Cw H1 (fun _ => true) v Dl) ⟨hD, Ex.new hD, upd_same⟩ (fun i H' _ p => ex_t ((e0.trans e1).trans p.2.1) hx) (fun i w H' H2 hi p y => ?_) (fun H' p => q Dl H' (fresh_back e1 p.1) (e1.trans p.2.1) p.2.2)
    obtain ⟨T, x, y, rfl, hT, rfl, q1, q2⟩ := y
    cases q1
    have p2 : Cw H1 (fun _ => true) v Dl i (upd H' T (.tup [.int (i : Nat), y])) := ⟨p.1, p.2.1.trans (Ex.new hT), by rw [upd_ne (ne_of_none p.2.2 hT)]; exact p.2.2⟩
    refine ⟨T, [.int (i : Nat), y], rfl, st_of upd_same, rfl, .int (i : Nat), [y], rfl, y, [], rfl, rfl, hw _ _, ?_⟩
    exact cw_turn p2 (by omega) et_yes (fun _ => he i y H1 (e0.trans e1) q2)⟩
/-- some tuple, some list of these items -/
def EvW (K : PySem.W.Frag) (te : TE) (σ : L2.St) (H : Hp) (xs : List V) : Prop := ∀ H1, Ex H H1 → ∀ Q : VK, (∀ p H2, Ex H1 H2 → SqT K H2 p xs → Q (.ref p) H2) → te σ H1 Q
def EvM (K : PySem.W.Frag) (te : TE) (σ : L2.St) (H : Hp) (xs : List V) : Prop := ∀ H1, Ex H H1 → ∀ Q : VK, (∀ p H2, Ex H1 H2 → SqL K H2 p xs → Q (.ref p) H2) → te σ H1 Q
theorem EvU.w (h : EvU te σ H xs) : EvW K te σ H xs := fun H1 e Q q => h H1 e Q fun p H2 _ e2 hp => q p H2 e2 (st_of hp)
theorem EvL.m (h : EvL te σ H xs) : EvM K te σ H xs := fun H1 e Q q => h H1 e Q fun p H2 _ e2 hp => q p H2 e2 (sq_of hp)
theorem ew_of (h : Ev te σ H (.ref a)) (hx : SqT K H a xs) : EvW K te σ H xs := fun H1 e Q q => h H1 e Q fun H2 e2 => q a H2 e2 (ex_t (e.trans e2) hx)
theorem em_of (h : Ev te σ H (.ref a)) (hx : SqL K H a xs) : EvM K te σ H xs := fun H1 e Q q => h H1 e Q fun H2 e2 => q a H2 e2 (ex_l (e.trans e2) hx)
theorem ev_sumW {ns : List Int} (h : EvW K ta σ H (ns.map V.int)) : Ev (tCB (rSumT K) (tCons ta tNil)) σ H (.int ns.sum) := fun H1 e Q q =>
  h H1 e _ fun p H2 e2 h2 => ⟨p, ns, rfl, h2, q H2 e2⟩
theorem ev_sumM {ns : List Int} (h : EvM K ta σ H (ns.map V.int)) : Ev (tCB (rSum K) (tCons ta tNil)) σ H (.int ns.sum) := fun H1 e Q q =>
  h H1 e _ fun p H2 e2 h2 => ⟨p, ns, rfl, h2, q H2 e2⟩
/-- t[:k] -/
theorem ew_take {th : TE} {k : Nat} (h : EvW K te σ H xs) (hk : Ev th σ H (.int (k : Int))) : EvW K (tSl (rSlA K) te tNoPart (tPart th)) σ H (xs.take k) := fun H1 e Q q =>
  h H1 e _ fun p H2 e2 h2 => hk H2 (e.trans e2) _ fun H3 e3 => ⟨(k : Int), rfl, p, xs, rfl, ex_t e3 h2, fun w => by
      have hi : min k xs.length = xs.length := by rw [← HT.sIx_nat xs.length xs.length k]; exact w.2
      have t : xs.take k = xs := List.take_of_length_le (by omega)
      rw [t] at q
      exact q p H3 (e2.trans e3) (ex_t e3 h2), fun _ r hr => by
      refine q r _ ((e2.trans e3).trans (Ex.new hr)) (st_of ?_)
      rw [upd_same]
      unfold cutV
      rw [HT.sIx_none, HT.sIx_nat]
      simp⟩
/-- xs[:k] of a list -/
theorem el_take {th : TE} {k : Nat} (h : EvM K te σ H xs) (hk : Ev th σ H (.int (k : Int))) : EvL (tSl (rSlL K) te tNoPart (tPart th)) σ H (xs.take k) := fun H1 e Q q =>
  h H1 e _ fun p H2 e2 h2 => hk H2 (e.trans e2) _ fun H3 e3 => ⟨(k : Int), rfl, p, xs, rfl, ex_l e3 h2, fun r hr => by
      refine q r _ (fresh_back (e2.trans e3) hr) ((e2.trans e3).trans (Ex.new hr)) ?_
      rw [upd_same]
      unfold cutV
      rw [HT.sIx_none, HT.sIx_nat]
      simp⟩
end
end Sw
namespace Sw
open PySem PySem.Spec PyProof.Rows L2 Evl
/-! ### max of a tuple of numbers -/
section
variable {prog : Program} {w : World} {A : Around} {E : Value → Shared → Prop} {s : Shared} {t : Addr} {xs : Array (Int × Tok)}
theorem max_intTup {Q : Value → Shared → Prop} (hh : A.handled = none) (ht : s.heap.IsTuple t (intItems xs)) (hne : 0 < xs.size)
    (h : ∀ v h' tk, (intItems xs)[argBest (fun i j => decide (numAt xs i > numAt xs j)) (xs.size - 1)]? = some v → (∀ b o, s.heap.get? b = some o → h'.get? b = some o) → Q v { s with heap := h', toks := tk }) :
    wpAny (model prog w) A (call (.builtin "max") [.ref t]) Q E s := by
  obtain ⟨o, ho, _, _, _⟩ := id ht
  have hlt : t < s.heap.objs.size := Heap.lt_size ho
  have hne' : t ≠ s.heap.objs.size := Nat.ne_of_lt hlt
  refine call_max_walk (wpAny_pyIter_tuple ht ?_)
  refine ⟨_, _, _, _, _, _, _, rfl, Walks.tuple (A := A.in1) hh _ t hne' (intItems xs), ⟨⟨_, Heap.get?_push_size _ rfl, rfl, rfl⟩, ht.at fun o e => Heap.get?_push_of_some _ e⟩, fun b hb => ?_, by simpa [intItems] using hne, CmpOf.ints_gt (numAt xs) (fun _ _ => intItems_at), fun v h' tk hP hk => ?_⟩
  · show b < (s.heap.push _).objs.size
    rw [Heap.size_push]
    rcases List.mem_cons.mp hb with rfl | hb
    · exact Nat.lt_succ_self _
    · rw [List.mem_singleton.mp hb]; exact Nat.lt_succ_of_lt hlt
  · refine h v h' tk (by simpa [intItems] using hP) fun b o e => hk b o (fun hm => ?_) (Heap.get?_push_of_some _ e)
    exact absurd (List.mem_singleton.mp hm ▸ Heap.lt_size e) (Nat.lt_irrefl _)
end
section
variable {X : Cx}
def rMaxT (K : PySem.W.Frag) : List V → Hp → VK → Prop := fun vs H Q => ∃ (a : Addr) (ns : List Int), vs = [V.ref a] ∧ SqT K H a (ns.map V.int) ∧ 0 < ns.length ∧ ∀ m, m ∈ ns → (∀ y, y ∈ ns → y ≤ m) → Q (.int m) H
theorem cr_maxT (hc : X.calm = true) : CallR X (.builtin "max") (rMaxT X.K) := by
  intro pins s σ H vs us Q I r h
  obtain ⟨a, ns, rfl, hs, hne, q⟩ := h
  obtain ⟨its, rv, hl, _⟩ := I.tuple hs
  rw [Vals.ref1 r]
  obtain ⟨xs, e⟩ := rv.ints.allInts.items
  have hn : numsOf (intItems xs).toList = ns := by rw [← e]; exact rv.ints.numsOf
  rw [nums_intItems] at hn
  subst hn
  have hl' : s.heap.IsTuple a (intItems xs) := by rw [← e]; exact hl
  have hsz : 0 < xs.size := by simpa using hne
  refine max_intTup (I.ok.hd hc) hl' hsz fun v h' tk hv hk => ?_
  obtain ⟨t', rfl⟩ := intItems_at hv
  obtain ⟨h1, h2⟩ := argBest_gt (numAt xs) (xs.size - 1)
  refine ⟨.int _, H, I.kept hk, ⟨t', rfl⟩, q _ ?_ fun y hy => ?_⟩
  · rw [numAt_eq]; exact PySem.getD_mem (by rw [List.length_map, Array.length_toList]; omega)
  · obtain ⟨j, hj, rfl⟩ := mem_getD hy
    rw [List.length_map, Array.length_toList] at hj
    rw [← numAt_eq]; exact h2 j (by omega)
end
theorem ev_maxT {K : PySem.W.Frag} {σ : L2.St} {H : Hp} {ta : TE} {a : Addr} {ns : List Int} {Qm : Int → Prop} (h : Ev ta σ H (.ref a)) (hx : SqT K H a (ns.map V.int)) (h0 : 0 < ns.length) :
    ∀ H1, Ex H H1 → ∀ Q : VK, (∀ m H2, Ex H1 H2 → m ∈ ns → (∀ y ∈ ns, y ≤ m) → Q (.int m) H2) → tCB (rMaxT K) (tCons ta tNil) σ H1 Q := fun H1 e Q q =>
  h H1 e _ fun H2 e2 => ⟨a, ns, rfl, ex_t (e.trans e2) hx, h0, fun m hm hle => q m H2 e2 hm hle⟩
end Sw
namespace Sw
open PySem PySem.Spec PyProof.Rows L2 Evl
section
variable {K : PySem.W.Frag} {σ : L2.St} {H H' : Hp} {ta tb te tl : TE} {x y z v : V} {a b : Addr} {xs ys : List V}
theorem ev_isN (h : Ev ta σ H x) : Ev (tIsN ta) σ H (.bl (decide (x = .non))) := fun H1 e1 Q q => h H1 e1 _ fun H2 e2 => q H2 e2
theorem ev_eqNil (ha : EvL ta σ H xs) (hb : EvL tb σ H []) (hx : xs = []) : Ev (tOp (rEqD K) ta tb) σ H (.bl true) := ev_opLL ha hb fun p q H1 hp hq _ => fun H2 e2 Q k => by
  subst hx
  exact ⟨.list [], .list [], .lst (sq_of (e2 _ _ hp)) .nil, .lst (sq_of (e2 _ _ hq)) .nil, by decide, by decide, by
    have : PyData.eqv (.list []) (.list []) = true := by decide
    rw [this]; exact k H2 (Ex.refl _)⟩
theorem given_none {n : Nat} {f : Nat → Bool} {v : Nat → V} (h : ∀ i, i < n → f i = false) : given n f v = [] := by
  unfold given
  have : (List.range n).filter f = [] := List.filter_eq_nil_iff.mpr fun i hi => by rw [h i (List.mem_range.mp hi)]; decide
  rw [this]; rfl
/-- two new lists, joined -/
theorem el_catN (ha : EvL ta σ H xs) (hb : EvL tb σ H ys) (hz : xs.length + ys.length ≤ 100000) : EvL (tOp rCat ta tb) σ H (xs ++ ys) := fun H1 e Q q =>
  ha H1 e _ fun p H2 _ e2 hp => hb H2 (e.trans e2) _ fun r H3 _ e3 hr => ⟨p, r, xs, ys, rfl, rfl, e3 _ _ hp, hr, sz_of hz, fun t ht => q t _ (fresh_back (e2.trans e3) ht) ((e2.trans e3).trans (Ex.new ht)) upd_same⟩
theorem el_lcRb {t : TA} {j : Nat} {vs : List Nat} {lo n : Int} (v : Nat → V) (h : EvA t σ H [.int lo, .int n]) (hn : 0 ≤ lo ∧ lo ≤ 10000 ∧ 0 ≤ n ∧ n ≤ 10000) (hw : ∀ x, wipe ((wipe σ vs).set j (some x)) vs = wipe σ vs)
    (he : ∀ (i : Nat) H1, Ex H H1 → lo + (i : Int) < n → Ev te ((wipe σ vs).set j (some (.int (lo + (i : Int))))) H1 (v i)) : EvL (tLc (iRng2 t) (gName j) tYes te vs) σ H ((List.range (n - lo).toNat).map v) := fun H0 e Q q => h H0 e _ fun H1 e1 => by
  rw [← given_all] at q
  exact ⟨lo, n, rfl, ⟨by omega, by omega, by omega, by omega⟩, fun Dl hD =>
    lc_range (lo := lo) (n := (n - lo).toNat) (Cw H1 (fun _ => true) v Dl) ⟨hD, Ex.new hD, upd_same⟩ (fun i H' hi p => ⟨hw _, cw_turn p (by omega) et_yes (fun _ => he i H1 (e.trans e1) (by omega))⟩) (fun H' p => q Dl H' (fresh_back e1 p.1) (e1.trans p.2.1) p.2.2)⟩
end
end Sw
namespace Sw
open PySem PySem.Spec PyProof.Rows L2 Evl
/-- the heap, the objects of N forgotten -/
noncomputable def wn (H : Hp) (N : Addr → Prop) : Hp := fun b => @ite _ (N b) (Classical.propDecidable _) none (H b)
theorem wn_in {H : Hp} {N : Addr → Prop} {b : Addr} (h : N b) : wn H N b = none := by unfold wn; rw [if_pos h]
theorem wn_ni {H : Hp} {N : Addr → Prop} {b : Addr} (h : ¬ N b) : wn H N b = H b := by unfold wn; rw [if_neg h]
theorem wn_some {H : Hp} {N : Addr → Prop} {b : Addr} {o : HO} (h : wn H N b = some o) : ¬ N b ∧ H b = some o := by
  by_cases q : N b
  · rw [wn_in q] at h; cases h
  · rw [wn_ni q] at h; exact ⟨q, h⟩
theorem wn_ex {H : Hp} {N : Addr → Prop} : Ex (wn H N) H := fun _ _ h => (wn_some h).2
theorem wn_mono {H H' : Hp} {N : Addr → Prop} (e : Ex H H') : Ex (wn H N) (wn H' N) := fun b o h => by
  obtain ⟨q, h1⟩ := wn_some h
  rw [wn_ni q]; exact e b o h1
theorem wn_upd {H : Hp} {N : Addr → Prop} {x : Addr} {o : HO} (hx : N x) : Ex (wn H N) (wn (upd H x o) N) := fun b u h => by
  obtain ⟨q, h1⟩ := wn_some h
  have nb : b ≠ x := fun z => q (by rw [z]; exact hx)
  rw [wn_ni q, upd_ne nb]; exact h1
theorem wn_sub {H : Hp} {N M : Addr → Prop} (h : ∀ b, N b → M b) : Ex (wn H M) (wn H N) := fun b o q => by
  obtain ⟨q1, h1⟩ := wn_some q
  rw [wn_ni fun z => q1 (h b z)]; exact h1
theorem wn_t {K : PySem.W.Frag} {H : Hp} {N : Addr → Prop} {a : Addr} {xs : List V} (ha : ¬ N a) (h : SqT K H a xs) : SqT K (wn H N) a xs := by
  rcases h with (h | ⟨u, h⟩) | h
  · exact .inl (.inl (by rw [wn_ni ha]; exact h))
  · exact .inl (.inr ⟨u, by rw [wn_ni ha]; exact h⟩)
  · exact .inr h
def nx (x : Addr) (N : Addr → Prop) : Addr → Prop := fun b => b = x ∨ N b
theorem wn_tx {K : PySem.W.Frag} {H : Hp} {N : Addr → Prop} {x a C dx : Addr} {fs : List (Str × V)} {xs : List V} (hx : H x = some (.ins C dx fs)) (h : SqT K (wn H N) a xs) : SqT K (wn H (nx x N)) a xs := by
  have go : ∀ u, wn H N a = some u → (∀ C dx fs, u ≠ .ins C dx fs) → wn H (nx x N) a = some u := fun u hu hne => by
    obtain ⟨q, h1⟩ := wn_some hu
    rw [wn_ni]
    · exact h1
    · rintro (e | e)
      · rw [e, hx] at h1; exact hne _ _ _ (Option.some.inj h1).symm
      · exact q e
  rcases h with (h | ⟨u, h⟩) | h
  · exact .inl (.inl (go _ h (fun _ _ _ q => nomatch q)))
  · exact .inl (.inr ⟨u, go _ h (fun _ _ _ q => nomatch q)⟩)
  · exact .inr h
end Sw
namespace Sw
open PySem PySem.Spec PyProof.Rows L2 Evl LamX NdefX
/-! ### lambdas that capture names: their objects -/
structure LF where
  qual : Str
  params : Arguments
  body : Expr
  scope : Scope
  cl : List (Str × Addr)
  c : Addr
  dv : Value
abbrev LF.fd (F : LF) (pm ctv : Value) : FuncData := { PySem.W.kla_fn "<lambda>" F.qual F.params F.body F.scope F.cl pm (.ref F.c) ctv with defaults := F.dv }
abbrev LF.nf (F : LF) : NF := ⟨"<lambda>", F.qual, F.params, [], F.scope, F.cl, F.c⟩
def LamO (f : Addr) (F : LF) : HO := .ext fun h => ∃ (od : Option Addr) (sl : Array (Option Value)) (pm ctv : Value), h.get? f = some (⟨.type "function", od, .func (F.fd pm ctv), sl⟩ : Obj)
theorem lamO_at {P : Program} {w : World} {H : Hp} {h : Heap} {f : Addr} {F : LF} (hok : HOk P w H h) (e : H f = some (LamO f F)) : ∃ (od : Option Addr) (sl : Array (Option Value)) (pm ctv : Value), h.get? f = some (⟨.type "function", od, .func (F.fd pm ctv), sl⟩ : Obj) := (hok f _ e).1
theorem lamO_tbl {f : Addr} {F : LF} (ps : Array Value) : LamO f F ≠ .tbl ps := fun z => by unfold LamO at z; cases z
/-! ### the end of a function's making, whatever its defaults -/
section
variable {M : Model} {A : Around} {E Q : Value → Shared → Prop} {s : Shared} {nm ql : Str} {pr : Arguments} {bd : Expr} {sc : Scope} {en : Env} {cc TP : Addr} {ts : Array Value} {po : Pos} {ln : Nat} {mg : Str → Option Value} {cl : List (Str × Addr)} {dv : Value}
abbrev fnDv (ql : Str) (pr : Arguments) (bd : Expr) (sc : Scope) (cl : List (Str × Addr)) (nm : Str) (pm c ct dv : Value) : FuncData := { PySem.W.kla_fn nm ql pr bd sc cl pm c ct with defaults := dv }
theorem tail_hit {cv : Value} (a1 : closureFor sc en = pure cl) (a2 : en.globals = mainGlobals) (a3 : s.heap.Ns mainGlobals mg) (a4 : en.code = .ref cc) (a5 : PySem.W.CodeHd s.heap cc TP) (a6 : s.heap.get? TP = some (PySem.W.tabObj ts)) (a7 : TriplesOk ts.toList) (a8 : codeAmong po ts.toList = some cv) (a9 : s.heap.BuiltinsAt mg TP)
    (k : ∀ (ct : Value) (g : Heap) (n : Tok), (∀ b o, s.heap.get? b = some o → g.get? b = some o) → s.heap.objs.size ≤ g.objs.size → Q (.ref g.objs.size) { s with heap := g.push { cls := .type "function", data := .func (fnDv ql pr bd sc cl nm ((mg "__name__").getD .none) cv ct dv) }, toks := n }) :
    wpAny M A (makeTail nm ql pr (.expr bd) sc en dv .none none po ln) Q E s := by
  obtain ⟨u1, u2, e1, e2, e3, e4, e5, e6, e7, e8⟩ := a9
  unfold makeTail; rw [a1, a2]; apply wpAny_bind; apply wpAny_pure
  rcases cl with _ | ⟨q, r⟩
  · rw [if_pos (List.isEmpty_nil)]
    apply wpAny_bind; apply wpAny_pure
    exact wpAny_bind (wpAny_functionCode_hit a4 (a5.code a6 a7) a8 (wpAny_bind (wpAny_builtinsFor a3 e1 e2 e5 e6 e7 e8 (wpAny_bind (wpAny_nsGet a3 (wpAny_bind (wpAny_pure (wpAny_newObj_type (k .none s.heap s.toks (fun _ _ e => e) (Nat.le_refl _)) (by size_fits)))))))))
  · rw [if_neg (by simp)]
    refine wpAny_bind (wpAny_newTextTuple ?_)
    exact wpAny_bind (wpAny_functionCode_hit a4 ((a5.keeps fun b o e => Heap.get?_push_of_some _ e).code (Heap.get?_push_of_some _ a6) a7) a8 (wpAny_bind (wpAny_builtinsFor (a3.push _) e1 e2 (Heap.get?_push_of_some _ e5) e6 e7 e8 (wpAny_bind (wpAny_nsGet (a3.push _)
      (wpAny_bind (wpAny_pure (wpAny_newObj_type (k _ _ s.toks (fun b o e => Heap.get?_push_of_some _ e) (by rw [Heap.size_push]; omega)) (by size_fits)))))))))
theorem tail_new (a1 : closureFor sc en = pure cl) (a2 : en.globals = mainGlobals) (a3 : s.heap.Ns mainGlobals mg) (a4 : en.code = .ref cc) (a5 : PySem.W.CodeHd s.heap cc TP) (a6 : s.heap.get? TP = some (PySem.W.tabObj ts)) (a7 : TriplesOk ts.toList) (a8 : codeAmong po ts.toList = none) (a0 : mainGlobals ≠ TP) (a9 : s.heap.BuiltinsAt mg TP)
    (k : ∀ c' ct g n, Heap.ExtBut TP s.heap g → s.heap.objs.size ≤ c' → c' < g.objs.size → g.CodeRec (.ref c') ql → g.get? TP = some (PySem.W.tabObj (ts ++ #[rawInt po.line, rawInt po.col, .ref c'])) → Q (.ref g.objs.size) { s with heap := g.push { cls := .type "function", data := .func (fnDv ql pr bd sc cl nm ((mg "__name__").getD .none) (.ref c') ct dv) }, toks := n }) :
    wpAny M A (makeTail nm ql pr (.expr bd) sc en dv .none none po ln) Q E s := by
  obtain ⟨u1, u2, e1, e2, e3, e4, e5, e6, e7, e8⟩ := a9
  unfold makeTail; rw [a1, a2]; apply wpAny_bind; apply wpAny_pure
  rcases cl with _ | ⟨q, r⟩
  · rw [if_pos (List.isEmpty_nil)]
    apply wpAny_bind; apply wpAny_pure
    refine wpAny_bind (wpAny_functionCodeX a4 (a5.code a6 a7) (a5.tab a6) a8 fun c' g n x1 x2 x3 _ x4 x5 _ => ?_)
    have a3' := a3.extBut x1 a0
    exact wpAny_bind (wpAny_builtinsFor a3' e1 e2 (x1 _ _ e4 e5) e6 e7 e8 (wpAny_bind (wpAny_nsGet a3' (wpAny_bind (wpAny_pure (wpAny_newObj_type (k c' .none g n x1 x2 x3 x4 x5.2) (by size_fits)))))))
  · rw [if_neg (by simp)]
    refine wpAny_bind (wpAny_newTextTuple ?_)
    have kp := a5.keeps fun b o e => Heap.get?_push_of_some { cls := .type "tuple", data := .seq (((q :: r).mergeSort fun a b => a.1.cps.toList ≤ b.1.cps.toList).map (Value.ref ·.2)).toArray } e
    refine wpAny_bind (wpAny_functionCodeX a4 (kp.code (Heap.get?_push_of_some _ a6) a7) (kp.tab (Heap.get?_push_of_some _ a6)) a8 fun c' g n x1 x2 x3 _ x4 x5 _ => ?_)
    have a3' := (a3.push _).extBut x1 a0
    have x1' : Heap.ExtBut TP s.heap g := fun b o hb e => x1 b o hb (Heap.get?_push_of_some _ e)
    have x2' : s.heap.objs.size ≤ c' := Nat.le_trans (by rw [Heap.size_push]; omega) x2
    exact wpAny_bind (wpAny_builtinsFor a3' e1 e2 (x1' _ _ e4 e5) e6 e7 e8 (wpAny_bind (wpAny_nsGet a3' (wpAny_bind (wpAny_pure (wpAny_newObj_type (k c' _ g n x1' x2' x3 x4 x5.2) (by size_fits)))))))
end
section
variable {X : Cx} {pins : List (Addr × Obj)} {σ : L2.St} {H : Hp} {s : Shared}
theorem inv_lam {F : LF} {o : Obj} {t' : Nat} {pm ctv : Value} (I : Inv X pins σ H s) (ho : o = { cls := .type "function", data := .func (F.fd pm ctv) }) : Inv X pins σ (upd H s.heap.objs.size (LamO s.heap.objs.size F)) { s with heap := s.heap.push o, toks := t' } := by
  subst ho
  refine I.laid (fun b u e => Heap.get?_push_of_some _ e) (Nat.le_refl _) ?_
  have g : (s.heap.push ({ cls := .type "function", data := .func (F.fd pm ctv) } : Obj)).get? s.heap.objs.size = some { cls := .type "function", data := .func (F.fd pm ctv) } := Heap.get?_push_size _ rfl
  exact ⟨⟨_, _, pm, ctv, g⟩, ⟨_, g⟩, fun _ _ ⟨od, sl, p, t, z⟩ st => ⟨od, sl, p, t, st _ z⟩⟩
/-- a lambda is made; its object and its code object are known from then on -/
theorem lam_tail {T : List NTab} {nm : Nat → Nat → Str} {c P : Addr} {params : Arguments} {body : Expr} {scope : Scope} {pos : Pos} {dv : Value} {E Q : Value → Shared → Prop} (I : Inv X pins σ H s) (TB : TabB X.base X.mg c P) (hcode : X.env.code = .ref c) (hm : (P, nm) ∈ T)
    (hn : nm pos.line pos.col = X.env.qual ++ "<lambda>") (hu : ∀ p ∈ T, p.1 = P → p.2 = nm) (hT : TabsN T H) (hfree : ∀ y ∈ scope.names, y.2 = .free → ∃ c, X.env.cells.lookup y.1 = some c)
    (fin : ∀ (f c' : Addr) (H1 : Hp) (s' : Shared), Inv X pins σ H1 s' → ExtN H H1 → (∀ b, H1 b = Option.none → H b = Option.none) → TabsN T H1 → H f = none → H1 f = some (LamO f ⟨X.env.qual ++ "<lambda>", params, body, scope, cloFrom X.env.cells scope.names [], c', dv⟩) → H1 c' = some (CodeO c' (X.env.qual ++ "<lambda>")) → Q (.ref f) s') :
    wpAny (model X.prog X.w) X.A (makeTail "<lambda>" (X.env.qual ++ "<lambda>") params (.expr body) scope X.env dv .none none pos pos.line) Q E s := by
  obtain ⟨ps, hP, ht, ha⟩ := (show TabN H P nm from hT _ hm)
  have bP : s.heap.BuiltinsAt X.mg P := TB.bm.keeps I.bk
  have gP : s.heap.get? P = some { cls := .none, data := .fields ps } := I.hok P _ hP
  cases hc : codeAmong pos ps.toList with
  | some cv =>
    obtain ⟨c', ecv, hco⟩ := ha pos cv hc
    subst ecv; rw [hn] at hco
    refine tail_hit (mg := X.mg) (closure_ok hfree) I.ok.glob (I.mod.glob.keeps I.bk) hcode (TB.code.keeps I.bk) gP ht hc bP fun ctv h' tk hx hsz => ?_
    have I1 : Inv X pins σ H { s with heap := h', toks := tk } := I.kept hx
    have nF : H h'.objs.size = none := I1.hok.fresh (Nat.le_refl _)
    have I2 := inv_lam (F := ⟨X.env.qual ++ "<lambda>", params, body, scope, cloFrom X.env.cells scope.names [], c', dv⟩) (t' := tk) (pm := (X.mg "__name__").getD .none) (ctv := ctv) I1 rfl
    have k1 : ∀ b o, H b = some o → upd H h'.objs.size (LamO h'.objs.size ⟨X.env.qual ++ "<lambda>", params, body, scope, cloFrom X.env.cells scope.names [], c', dv⟩) b = some o := fun b o e => (upd_ne (ne_of_none e nF)).trans e
    exact fin h'.objs.size c' _ _ I2 (fun b o e _ => k1 b o e) (fun b e => upd_none e) (hT.ext k1) nF upd_same (k1 _ _ hco)
  | none =>
    refine tail_new (mg := X.mg) (closure_ok hfree) I.ok.glob (I.mod.glob.keeps I.bk) hcode (TB.code.keeps I.bk) gP ht hc TB.gP bP fun c' ctv h' tk hx hge hlt hrec htb => ?_
    obtain ⟨c2, oc, vs, t, e2, hoc, hd, hv⟩ := hrec
    cases e2
    have nC : H c' = none := I.hok.fresh hge
    have I1 := inv_table (t' := tk) (more := #[rawInt pos.line, rawInt pos.col, .ref c']) (h' := h') I hP (fun b o hb e => hx b o hb e) htb hge ⟨oc, vs, t, hoc, hd, hv⟩
    have kE : ExtN H (upd (upd H P (.tbl (ps ++ #[rawInt pos.line, rawInt pos.col, .ref c']))) c' (CodeO c' (X.env.qual ++ "<lambda>"))) := fun b o e n => by
      rw [upd_ne (ne_of_none e nC), upd_ne (fun z => n ps (Option.some.inj (e.symm.trans (by rw [z]; exact hP))))]; exact e
    have aL : (ps ++ #[rawInt pos.line, rawInt pos.col, .ref c']).toList = ps.toList ++ [rawInt pos.line, rawInt pos.col, .ref c'] := by simp
    have T1 : TabsN T (upd (upd H P (.tbl (ps ++ #[rawInt pos.line, rawInt pos.col, .ref c']))) c' (CodeO c' (X.env.qual ++ "<lambda>"))) := fun p hp => by
      by_cases hb : p.1 = P
      · rw [hu p hp hb, hb]
        refine ⟨_, (upd_ne (ne_of_none hP nC)).trans upd_same, by rw [aL]; exact PySem.TriplesOk_snoc _ _ _ _ ht, fun p' cv hcv => ?_⟩
        rw [aL] at hcv
        rcases among_app2 _ ht hcv with z | ⟨z, z1, z2⟩
        · obtain ⟨c0, g1, g2⟩ := ha p' cv z; exact ⟨c0, g1, kE _ _ g2 codeO_ne⟩
        · exact ⟨c', z, by rw [← z1, ← z2, hn]; exact upd_same⟩
      · obtain ⟨ps', a1, a2, a3⟩ := hT p hp
        refine ⟨ps', by rw [upd_ne (ne_of_none a1 nC), upd_ne hb]; exact a1, a2, fun p' cv hcv => ?_⟩
        obtain ⟨c0, g1, g2⟩ := a3 p' cv hcv; exact ⟨c0, g1, kE _ _ g2 codeO_ne⟩
    have nF := I1.hok.fresh (Nat.le_refl _)
    have I2 := inv_lam (F := ⟨X.env.qual ++ "<lambda>", params, body, scope, cloFrom X.env.cells scope.names [], c', dv⟩) (t' := tk) (pm := (X.mg "__name__").getD .none) (ctv := ctv) I1 rfl
    exact fin h'.objs.size c' _ _ I2 (fun b o e n => (upd_ne (ne_of_none (kE b o e n) nF)).trans (kE b o e n)) (fun b e => upd_none (upd_none (upd_none e))) (T1.ext fun b o e => (upd_ne (ne_of_none e nF)).trans e)
      (I.hok.fresh (Nat.le_trans hge (Nat.le_of_lt hlt))) upd_same ((upd_ne (Nat.ne_of_lt hlt)).trans upd_same)
theorem lam_new {T : List NTab} {nm : Nat → Nat → Str} {c P : Addr} {params : Arguments} {body : Expr} {scope : Scope} {pos : Pos} {E Q : Value → Shared → Prop} (I : Inv X pins σ H s) (TB : TabB X.base X.mg c P) (hcode : X.env.code = .ref c) (hm : (P, nm) ∈ T)
    (hn : nm pos.line pos.col = X.env.qual ++ "<lambda>") (hu : ∀ p ∈ T, p.1 = P → p.2 = nm) (hT : TabsN T H) (hdef : defaultsOf params X.env = ([], [])) (hfree : ∀ y ∈ scope.names, y.2 = .free → ∃ c, X.env.cells.lookup y.1 = some c)
    (fin : ∀ (f c' : Addr) (H1 : Hp) (s' : Shared), Inv X pins σ H1 s' → ExtN H H1 → (∀ b, H1 b = Option.none → H b = Option.none) → TabsN T H1 → H f = none → H1 f = some (LamO f ⟨X.env.qual ++ "<lambda>", params, body, scope, cloFrom X.env.cells scope.names [], c', .none⟩) → H1 c' = some (CodeO c' (X.env.qual ++ "<lambda>")) → Q (.ref f) s') :
    wpAny (model X.prog X.w) X.A (eval (.Lambda params body scope pos) X.env) Q E s := by
  refine PySem.W.kla_eval hdef ?_
  rw [makeFunction_eq]
  simp only [List.zip_nil_right, List.filterMap_nil, List.isEmpty_nil, if_true, pure_bind]
  exact lam_tail I TB hcode hm hn hu hT hfree fin
end
/-- the reading of a lambda: a new function, its code known -/
def tLamE (T : List NTab) (mk : Addr → LF) : TE := fun σ H Q => TabsN T H ∧ ∀ (f c' : Addr) (H1 : Hp), ExtN H H1 → (∀ b, H1 b = Option.none → H b = Option.none) → TabsN T H1 → H f = none → H1 f = some (LamO f (mk c')) → H1 c' = some (CodeO c' (mk c').qual) → Q (.ref f) H1
theorem pe_lamE {X : Cx} {T : List NTab} {nm : Nat → Nat → Str} {c P : Addr} {params : Arguments} {body : Expr} {scope : Scope} {pos : Pos} (TB : TabB X.base X.mg c P) (hcode : X.env.code = .ref c) (hm : (P, nm) ∈ T) (hn : nm pos.line pos.col = X.env.qual ++ "<lambda>") (hu : ∀ p ∈ T, p.1 = P → p.2 = nm) (hdef : defaultsOf params X.env = ([], []))
    (hfree : ∀ y ∈ scope.names, y.2 = .free → X.env.scope.names.lookup y.1 = some .cell ∨ X.env.scope.names.lookup y.1 = some .free) : PE X (.Lambda params body scope pos) (tLamE T fun c' => ⟨X.env.qual ++ "<lambda>", params, body, scope, cloFrom X.env.cells scope.names [], c', .none⟩) := by
  refine ⟨fun pins s σ H Q I ⟨hT, h⟩ => ?_⟩
  exact lam_new I TB hcode hm hn hu hT hdef (fun y hy e => (hfree y hy e).elim (fun z => I.ok.has _ (.inl z)) fun z => I.ok.has _ (.inr z)) fun f c' H1 s' I1 e1 e2 e3 e4 e5 e6 => ⟨.ref f, H1, I1, rfl, h f c' H1 e1 e2 e3 e4 e5 e6⟩
/-! ### what may be called: a promise that goes with an address -/
/-- called in any state that has all of S, the function at f keeps the promise sp -/
def Cal (P : Program) (w : World) (K : PySem.W.Frag) (mg : Str → Option Value) (base : Heap) (CX : CXT) (k : Nat) (f : Addr) (sp : Sp) (S : Hp) : Prop :=
  (∃ F, S f = some (LamO f F)) ∧ ∀ (A : Around) (outer : List Env) (s : Shared) (H : Hp) (us : List Value) (vs : List V) (Q : VK) (E : XK), Ex S H → Room k A → Env0 P w K mg base A outer s H → Vals vs us → sp vs H Q E →
    codeAny (model P w) A (.call (.ref f) ⟨us, []⟩) (CR CX outer P w H s Q E) s
theorem Cal.mono {P : Program} {w : World} {K : PySem.W.Frag} {mg : Str → Option Value} {base : Heap} {CX : CXT} {k : Nat} {f : Addr} {sp : Sp} {S S' : Hp} (h : Cal P w K mg base CX k f sp S) (e : Ex S S') : Cal P w K mg base CX k f sp S' :=
  ⟨let ⟨F, z⟩ := h.1; ⟨F, e _ _ z⟩, fun A outer s H us vs Q E e2 => h.2 A outer s H us vs Q E (e.trans e2)⟩
def tCal (P : Program) (w : World) (K : PySem.W.Frag) (mg : Str → Option Value) (base : Heap) (CX : CXT) (k i : Nat) (E : XK) (t : TA) : TE := fun σ H Q => ∃ f sp S, σ[i]? = some (some (.ref f)) ∧ Cal P w K mg base CX k f sp S ∧ Ex S H ∧ t σ H fun vs H1 => Ex S H1 ∧ sp vs H1 Q E
section
variable {X : Cx} {CX : CXT} {i j k : Nat} {x : Str} {E : XK} {t : TA} {e : Expr} {es : List Expr} {p pos : Pos}
theorem lam_fnAt {pins : List (Addr × Obj)} {σ : L2.St} {H S : Hp} {s : Shared} {f : Addr} {sp : Sp} (I : Inv X pins σ H s) (C : Cal X.prog X.w X.K X.mg X.base CX k f sp S) (e : Ex S H) : PySem.W.FnAt f s.heap := by
  obtain ⟨F, z⟩ := C.1
  obtain ⟨od, sl, pm, ctv, ho⟩ := lamO_at I.hok (e _ _ z)
  exact ⟨_, od, _, sl, ho⟩
theorem run_cal {pins : List (Addr × Obj)} {σ : L2.St} {H S : Hp} {s : Shared} {f : Addr} {sp : Sp} {us : List Value} {vs : List V} {Q : VK} (I : Inv X pins σ H s) (C : Cal X.prog X.w X.K X.mg X.base CX k f sp S) (hr : Room k X.A) (hx : Passes CX X E) (eS : Ex S H) (r : Vals vs us) (q : sp vs H Q E) :
    wpAny (model X.prog X.w) X.A (call (.ref f) us) (EP X pins σ Q) X.xe s := by
  refine wpAny_call (codeAny_mono (C.2 X.A X.stack s H us vs Q E eS hr I.env0 r q) fun r s' hq => ?_)
  match r, hq with
  | .error e, hq => exact hx pins σ H s e s' I hq
  | .ok (.ret u), hq => exact I.after hq
  | .ok .next, hq => exact False.elim hq
  | .ok .brk, hq => exact False.elim hq
  | .ok .cont, hq => exact False.elim hq
theorem pe_cal (hr : Room j X.A) (hk : k ≤ j) (hx : Passes CX X E) (hN : X.N[i]? = some x) (hv : Vis X.env.scope x) (ha : PA X (e :: es) t) (hd : (x == ("__debug__" : Str)) = false := by decide) (hcd : (x == ("__classdict__" : Str)) = false := by decide)
    (he : starEach (e :: es) X.env = (false, eval e X.env) :: starEach es X.env := by rfl) (hpl : (backTo pos (starEach es X.env)).any (·.1) = false := by rfl) : PE X (.Call (.Name x p) (e :: es) [] pos) (tCal X.prog X.w X.K X.mg X.base CX k i E t) := by
  refine ⟨fun pins s σ H Q I ⟨f, sp, S, hs, C, eS, ht⟩ => ?_⟩
  refine wpAny_Call_Name_kw (thn ((pe_var (pos := p) hN hv hd hcd).run pins s σ H (fun v H1 => v = .ref f ∧ H1 = H) I ⟨.ref f, hs, rfl, rfl⟩) fun u s1 ⟨v, H1, I1, r1, ev, eH⟩ => ?_)
  subst ev eH
  obtain rfl : u = Value.ref f := r1
  exact PySem.W.callWith_F (first := []) (lam_fnAt I1 C eS) (thn (ha.run pos pins s1 σ H1 _ I1 ht) fun us s2 ⟨vs, H2, I2, r, e2, q⟩ => ⟨lam_fnAt I2 C e2, run_cal I2 C (hr.mono hk) hx e2 r q⟩) he hpl
theorem pe_cal0 (hr : Room j X.A) (hk : k ≤ j) (hx : Passes CX X E) (hN : X.N[i]? = some x) (hv : Vis X.env.scope x) (hd : (x == ("__debug__" : Str)) = false := by decide) (hcd : (x == ("__classdict__" : Str)) = false := by decide) :
    PE X (.Call (.Name x p) [] [] pos) (tCal X.prog X.w X.K X.mg X.base CX k i E tNil) := by
  refine ⟨fun pins s σ H Q I ⟨f, sp, S, hs, C, eS, e2, q⟩ => ?_⟩
  refine wpAny_Call_Name_kw (thn ((pe_var (pos := p) hN hv hd hcd).run pins s σ H (fun v H1 => v = .ref f ∧ H1 = H) I ⟨.ref f, hs, rfl, rfl⟩) fun u s1 ⟨v, H1, I1, r1, ev, eH⟩ => ?_)
  subst ev eH
  obtain rfl : u = Value.ref f := r1
  exact PySem.W.callWith_F0 (first := []) (lam_fnAt I1 C eS) (run_cal I1 C (hr.mono hk) hx e2 .nil q)
theorem pe_calE (P : Program) (w : World) (K : PySem.W.Frag) (mg : Str → Option Value) (base : Heap) (h1 : X.prog = P) (h2 : X.w = w) (h3 : X.K = K) (h4 : X.mg = mg) (h5 : X.base = base) (hr : Room j X.A) (hk : k ≤ j) (hx : Passes CX X E) (hN : X.N[i]? = some x) (hv : Vis X.env.scope x) (ha : PA X (e :: es) t)
    (hd : (x == ("__debug__" : Str)) = false := by decide) (hcd : (x == ("__classdict__" : Str)) = false := by decide) (he : starEach (e :: es) X.env = (false, eval e X.env) :: starEach es X.env := by rfl) (hpl : (backTo pos (starEach es X.env)).any (·.1) = false := by rfl) :
    PE X (.Call (.Name x p) (e :: es) [] pos) (tCal P w K mg base CX k i E t) := by
  subst h1 h2 h3 h4 h5
  exact pe_cal hr hk hx hN hv ha hd hcd he hpl
theorem pe_cal0E (P : Program) (w : World) (K : PySem.W.Frag) (mg : Str → Option Value) (base : Heap) (h1 : X.prog = P) (h2 : X.w = w) (h3 : X.K = K) (h4 : X.mg = mg) (h5 : X.base = base) (hr : Room j X.A) (hk : k ≤ j) (hx : Passes CX X E) (hN : X.N[i]? = some x) (hv : Vis X.env.scope x)
    (hd : (x == ("__debug__" : Str)) = false := by decide) (hcd : (x == ("__classdict__" : Str)) = false := by decide) : PE X (.Call (.Name x p) [] [] pos) (tCal P w K mg base CX k i E tNil) := by
  subst h1 h2 h3 h4 h5
  exact pe_cal0 hr hk hx hN hv hd hcd
end
end Sw
namespace Sw
open PySem PySem.Spec PyProof.Rows L2 Evl LamX NdefX
/-! ### cells that are known for a while: frozen for a callee -/
abbrev okT : HO := .ext fun _ => True
/-- of H, what N names is as H0 has it -/
noncomputable def mixN (N : Addr → Prop) (H0 H : Hp) : Hp := fun b => @ite _ (N b) (Classical.propDecidable _) (H0 b) (H b)
theorem mix_in {N : Addr → Prop} {H0 H : Hp} {b : Addr} (h : N b) : mixN N H0 H b = H0 b := by unfold mixN; rw [if_pos h]
theorem mix_ni {N : Addr → Prop} {H0 H : Hp} {b : Addr} (h : ¬ N b) : mixN N H0 H b = H b := by unfold mixN; rw [if_neg h]
structure Frz (X : Cx) (σ : L2.St) (H Hz : Hp) (N : Addr → Prop) : Prop where
  iff : ∀ b, N b ↔ ∃ y, X.env.cells.lookup y = some b
  out : ∀ b, ¬ N b → Hz b = H b
  off : ∀ b, N b → H b = Option.none
  inn : ∀ b, N b → ∃ o v, Hz b = some (.frz o okT) ∧ o.data = .cell v
  val : ∀ (i : Nat) (y : Str) (v : V) (c : Addr), X.N[i]? = some y → σ[i]? = some (some v) → (X.env.scope.names.lookup y = some .cell ∨ X.env.scope.names.lookup y = some .free) → X.env.cells.lookup y = some c → ∃ o u, Hz c = some (.frz o okT) ∧ o.data = .cell (some u) ∧ L2.RelV v u
  inj : ∀ x y c, X.env.cells.lookup x = some c → X.env.cells.lookup y = some c → x = y
  has : ∀ y, (X.env.scope.names.lookup y = some .cell ∨ X.env.scope.names.lookup y = some .free) → ∃ c, X.env.cells.lookup y = some c
theorem okT_ok {P : Program} {w : World} {H : Hp} {h : Heap} {a : Addr} {o : Obj} (e : h.get? a = some o) : ObjOk P w H h a (.frz o okT) := ⟨e, trivial, ⟨o, e⟩, fun _ _ _ _ => trivial⟩
/-- what is frozen, and how it comes back -/
theorem Frz.ex_ {X : Cx} {σ : L2.St} {H Hz : Hp} {N : Addr → Prop} (z : Frz X σ H Hz N) : Ex H Hz := fun b o e => by
  rw [z.out b (fun n => by rw [z.off b n] at e; cases e)]; exact e
theorem frz_env {X : Cx} {pins : List (Addr × Obj)} {σ : L2.St} {H : Hp} {s : Shared} (I : Inv X pins σ H s) (hfn : ∀ y, X.fn y = true) : ∃ Hz N, Frz X σ H Hz N ∧ Env0 X.prog X.w X.K X.mg X.base X.A X.stack s Hz ∧
    ∀ (Q : VK) (u : Value) (s' : Shared), CE X.stack X.prog X.w Hz s (fun v H2 => Q v (wn H2 N)) u s' → CE X.stack X.prog X.w H s Q u s' := by
  have cellOf : ∀ b, (∃ y, X.env.cells.lookup y = some b) → ∃ o v, s.heap.get? b = some o ∧ o.data = .cell v := fun b ⟨y, e⟩ => let ⟨v, o, h1, h2⟩ := I.cell y b e; ⟨o, v, h1, h2⟩
  let fz : Hp := fun b => (s.heap.get? b).map fun o => .frz o okT
  refine ⟨mixN (fun b => ∃ y, X.env.cells.lookup y = some b) fz H, fun b => ∃ y, X.env.cells.lookup y = some b, ?_, ?_, ?_⟩
  · refine ⟨fun b => Iff.rfl, fun b n => mix_ni n, fun b ⟨y, e⟩ => I.freeC y b e, fun b n => ?_, fun i y v c h1 h2 h3 h4 => ?_, I.ok.inj, I.ok.has⟩
    · obtain ⟨o, v, e1, e2⟩ := cellOf b n
      exact ⟨o, v, by rw [mix_in n]; show (s.heap.get? b).map _ = _; rw [e1]; rfl, e2⟩
    · obtain ⟨m, hn, hl⟩ := I.loc
      obtain ⟨u, r, l⟩ := hl i y v h1 h2 (h3.elim (fun z => .inr (.inl z)) fun z => .inr (.inr z))
      rcases l with ⟨z, _⟩ | ⟨_, a, ha, o, ho, hd⟩
      · have z' : X.env.scope.names.lookup y = some .local := z
        rcases h3 with k | k <;> rw [k] at z' <;> cases z'
      · rw [h4] at ha; cases ha
        exact ⟨o, u, by rw [mix_in ⟨y, h4⟩]; show (s.heap.get? c).map _ = _; rw [ho]; rfl, hd, r⟩
  · have e0 := I.env0
    have big : ∀ b, (∃ y, X.env.cells.lookup y = some b) → X.s_0.heap.objs.size ≤ b := fun b ⟨y, e⟩ => I.ok.cab y b (hfn y) e
    refine ⟨e0.frames, e0.mod, fun b o e => ⟨(e0.bs b o e).1, ?_⟩, e0.bsz, e0.funs, fun b hb => ?_, fun a o e => ?_, e0.bare⟩
    · rw [mix_ni fun n => absurd (Nat.lt_of_lt_of_le (Heap.lt_size (I.ok.bs b o e).1) (big b n)) (Nat.lt_irrefl _)]
      exact (e0.bs b o e).2
    · rw [mix_ni]
      · exact e0.frf b hb
      · intro n
        rcases List.mem_cons.mp (I.stkSub b hb) with z | z
        · obtain ⟨y, e⟩ := n
          exact I.cne y b e z
        · obtain ⟨_, o, ho, _⟩ := I.ok.funs.mem z
          exact absurd (Nat.lt_of_lt_of_le (Heap.lt_size ho) (big b n)) (Nat.lt_irrefl _)
    · by_cases n : ∃ y, X.env.cells.lookup y = some a
      · rw [mix_in n] at e
        obtain ⟨o', v, e1, e2⟩ := cellOf a n
        have e3 : (s.heap.get? a).map (fun o => HO.frz o okT) = some o := e
        rw [e1] at e3; cases e3
        exact okT_ok e1
      · rw [mix_ni n] at e
        refine (e0.hok a o e).stay (fun b u _ q => q) (fun b q => ?_) fun b xs q => ?_
        · rw [mix_ni fun ⟨y, z⟩ => by rw [I.freeC y b z] at q; cases q]; exact q
        · rw [mix_ni fun ⟨y, z⟩ => by rw [I.freeC y b z] at q; cases q]; exact q
  · rintro Q u s' ⟨v, H2, os, bare, un, hok, r, q⟩
    have fr : ∀ b, (∃ y, X.env.cells.lookup y = some b) → ∀ o, s.heap.get? b = some o → H2 b = some (.frz o okT) ∧ s'.heap.get? b = some o := fun b n o e => by
      have z := un.frzs b o okT (by rw [mix_in n]; show (s.heap.get? b).map _ = _; rw [e]; rfl)
      exact ⟨z, (hok b _ z).1⟩
    have mz : ∀ {b : Addr}, (¬ ∃ y, X.env.cells.lookup y = some b) → H b = Option.none → mixN (fun b => ∃ y, X.env.cells.lookup y = some b) fz H b = Option.none := fun n e => (mix_ni n).trans e
    refine ⟨v, wn H2 _, os, bare, ⟨fun b o e n h1 h2 => ?_, fun b o e n h1 h2 => ?_, fun b o e n h2 => ?_, un.there, fun b xs e => ?_, fun b o u e => ?_, fun b ps e => ?_⟩, fun a o e => ?_, r, q⟩
    · by_cases c : ∃ y, X.env.cells.lookup y = some b
      · exact (fr b c o e).2
      · exact un.keep b o e (mz c n) h1 h2
    · by_cases c : ∃ y, X.env.cells.lookup y = some b
      · exact ⟨o.slots, (fr b c o e).2⟩
      · exact un.slot b o e (mz c n) h1 h2
    · by_cases c : ∃ y, X.env.cells.lookup y = some b
      · exact wn_in c
      · rw [wn_ni c]; exact un.free b o e (mz c n) h2
    · have c : ¬ ∃ y, X.env.cells.lookup y = some b := fun ⟨y, z⟩ => by rw [I.freeC y b z] at e; cases e
      rw [wn_ni c]; exact un.tups b xs ((mix_ni c).trans e)
    · have c : ¬ ∃ y, X.env.cells.lookup y = some b := fun ⟨y, z⟩ => by rw [I.freeC y b z] at e; cases e
      rw [wn_ni c]; exact un.frzs b o u ((mix_ni c).trans e)
    · have c : ¬ ∃ y, X.env.cells.lookup y = some b := fun ⟨y, z⟩ => by rw [I.freeC y b z] at e; cases e
      obtain ⟨more, z⟩ := un.tbls b ps ((mix_ni c).trans e)
      exact ⟨more, by rw [wn_ni c]; exact z⟩
    · obtain ⟨c, e'⟩ := wn_some e
      have nc : ∀ {b : Addr} {o : HO}, H2 b = some o → (∀ ob, o ≠ .frz ob okT) → ¬ ∃ y, X.env.cells.lookup y = some b := fun {b o} q ne n => by
        obtain ⟨ob, _, e1, _⟩ := cellOf b n
        rw [(fr b n ob e1).1] at q
        exact ne ob (Option.some.inj q).symm
      refine (hok a o e').stay (fun b u _ q => q) (fun b q => ?_) fun b xs q => ?_
      · rw [wn_ni (nc q fun _ z => nomatch z)]; exact q
      · rw [wn_ni (nc q fun _ z => nomatch z)]; exact q
/-- f(..) of a def that lets nothing out, the caller's cells frozen while it runs -/
def tCallZ (X : Cx) (sp : Sp) (dvs : List V) (t : TA) : TE := fun σ H Q => t σ H fun vs H1 => ∀ Hz N, Frz X σ H1 Hz N → sp (vs ++ dvs) Hz (fun v H2 => Q v (wn H2 N)) E0
theorem pe_callZ {X : Cx} {k : Nat} {f : Addr} {fd : FuncData} {ps : List Str} {sp : Sp} {dvs : List V} {ds : List Value} {x : Str} {p pos : Pos} {e : Expr} {es : List Expr} {t : TA} (F : FnOk X.prog X.w X.K X.mg X.base L2.CX0 k f fd ps sp) (hr : Room k X.A) (hg : Gl X x) (hm : X.mg x = some (.ref f)) (hk : PySem.W.keepIn X.K (.ref f) = true)
    (hb : L2.Binds X.K fd ps ds) (hd : Vals dvs ds) (ha : PA X (e :: es) t) (hfn : ∀ y, X.fn y = true := by intro _; rfl) (hdb : (x == ("__debug__" : Str)) = false := by decide) (he : starEach (e :: es) X.env = (false, eval e X.env) :: starEach es X.env := by rfl) (hpl : (backTo pos (starEach es X.env)).any (·.1) = false := by rfl) :
    PE X (.Call (.Name x p) (e :: es) [] pos) (tCallZ X sp dvs t) := by
  refine ⟨fun pins s σ H Q I h => ?_⟩
  refine wpAny_Call_Name_kw (ld_glob I hg hm (PySem.W.callWith_K (h₀ := X.base) I.ok.mod.kin hk (thn (ha.run pos pins s σ H _ I h) fun us s1 ⟨vs, H1, I1, r, q⟩ => ⟨I1.kIn, ?_⟩) he hpl) hdb)
  obtain ⟨Hz, N, fz, e0, back⟩ := frz_env I1 hfn
  have q := q Hz N fz
  have r2 : Vals (vs ++ dvs) (us ++ ds) := r.append hd
  have hl : (us ++ ds).length = ps.length := by rw [← r2.length]; exact F.len _ _ _ _ q
  refine wpAny_call (codeAny_mono (F.run X.A X.stack s1 Hz ⟨us, []⟩ (us ++ ds) (vs ++ dvs) _ _ hr e0 (hb s1 us I1.kIn hl) r2 q) fun r s' hq => ?_)
  match r, hq with
  | .error e, hq => exact (show False from hq).elim
  | .ok (.ret u), hq => exact I1.after (back Q u s' hq)
  | .ok .next, hq => exact False.elim hq
  | .ok .brk, hq => exact False.elim hq
  | .ok .cont, hq => exact False.elim hq
end Sw
namespace Sw
open PySem PySem.Spec PyProof.Rows L2 Evl LamX NdefX
/-! ### a lambda's promise, from its body -/
structure CloK (S : Hp) (f : Addr) (F : LF) (fr : List Str) (ws : List (Option V)) : Prop where
  fn : S f = some (LamO f F)
  co : S F.c = some (CodeO F.c F.qual)
  len : ws.length = fr.length
  all : ∀ y c, F.cl.lookup y = some c → ∃ o v, S c = some (.frz o okT) ∧ o.data = .cell v
  inj : ∀ x y c, F.cl.lookup x = some c → F.cl.lookup y = some c → x = y
  has : ∀ (i : Nat) (y : Str), fr[i]? = some y → ∃ c, F.cl.lookup y = some c ∧ ∀ v, ws[i]? = some (some v) → ∃ o u, S c = some (.frz o okT) ∧ o.data = .cell (some u) ∧ L2.RelV v u
theorem CloK.mono {S S' : Hp} {f : Addr} {F : LF} {fr : List Str} {ws : List (Option V)} (e : Ex S S') (C : CloK S f F fr ws) : CloK S' f F fr ws :=
  ⟨e _ _ C.fn, e _ _ C.co, C.len, fun y c h => let ⟨o, v, a, b⟩ := C.all y c h; ⟨o, v, e _ _ a, b⟩, C.inj, fun i y h => let ⟨c, a, b⟩ := C.has i y h; ⟨c, a, fun v hv => let ⟨o, u, p, q⟩ := b v hv; ⟨o, u, e _ _ p, q⟩⟩⟩
/-- the cells that a lambda captured -/
def clN (F : LF) : Addr → Prop := fun b => ∃ y, F.cl.lookup y = some b
theorem clo_frz {X : Cx} {σ : L2.St} {H Hz : Hp} {N : Addr → Prop} {f : Addr} {F : LF} {scope : Scope} {fr : List Str} {js : List Nat} (z : Frz X σ H Hz N) (hf : H f = some (LamO f F)) (hc : H F.c = some (CodeO F.c F.qual)) (hcl : F.cl = cloFrom X.env.cells scope.names [])
    (hfree : ∀ y ∈ scope.names, y.2 = .free → X.env.scope.names.lookup y.1 = some .cell ∨ X.env.scope.names.lookup y.1 = some .free) (hfr : ∀ y ∈ fr, (y, NameKind.free) ∈ scope.names) (hjs : js.map (fun j => X.N[j]?) = fr.map some) : CloK Hz f F fr (js.map (slotAt σ)) := by
  have hF : ∀ y ∈ scope.names, y.2 = .free → ∃ c, X.env.cells.lookup y.1 = some c := fun y hy e => z.has y.1 (hfree y hy e)
  have sub : ∀ y c, F.cl.lookup y = some c → X.env.cells.lookup y = some c := fun y c e => clo_cm hF (by rw [hcl] at e; exact e)
  have kn : ∀ {a : Addr} {o : HO}, H a = some o → Hz a = some o := fun {a o} e => z.ex_ a o e
  have ln : js.length = fr.length := by
    have q := congrArg List.length hjs
    rw [List.length_map, List.length_map] at q; exact q
  refine ⟨kn hf, kn hc, by rw [List.length_map]; exact ln, fun y c e => z.inn c ((z.iff c).mpr ⟨y, sub y c e⟩), fun x y c a b => z.inj x y c (sub x c a) (sub y c b), fun i y e => ?_⟩
  have k := hfree (y, .free) (hfr y (List.mem_of_getElem? e)) rfl
  obtain ⟨c, hc0⟩ := z.has y k
  refine ⟨c, by rw [hcl]; exact clo_has hF (hfr y (List.mem_of_getElem? e)) hc0, fun v ev => ?_⟩
  have e2 : (js.map fun j => X.N[j]?)[i]? = some (some y) := by rw [hjs, List.getElem?_map, e]; rfl
  rw [List.getElem?_map] at e2 ev
  cases ej : js[i]? with
  | none => rw [ej] at e2; cases e2
  | some j =>
    rw [ej] at e2 ev
    exact z.val j y v c (Option.some.inj (show some (X.N[j]?) = some (some y) from e2)) (slotAt_some (Option.some.inj (show some (slotAt σ j) = some (some v) from ev))) k hc0
/-- a state in which the cells of Nf are frozen, and the same state without them -/
structure Thaw (H : Hp) (Nf : Addr → Prop) : Prop where
  all : ∀ b, Nf b → ∃ o v, H b = some (.frz o okT) ∧ o.data = .cell v
theorem Thaw.off {H : Hp} {Nf : Addr → Prop} (t : Thaw H Nf) {b : Addr} {o : HO} (e : H b = some o) (n : ∀ ob, o ≠ .frz ob okT) : ¬ Nf b := fun z => let ⟨ob, _, q, _⟩ := t.all b z; n ob (Option.some.inj (e.symm.trans q))
theorem Thaw.offN {H : Hp} {Nf : Addr → Prop} (t : Thaw H Nf) {b : Addr} (e : H b = none) : ¬ Nf b := fun z => let ⟨_, _, q, _⟩ := t.all b z; by rw [e] at q; cases q
section
variable {P : Program} {w : World} {K : PySem.W.Frag} {mg : Str → Option Value} {base : Heap} {A : Around} {outer : List Env} {s : Shared} {H : Hp} {Nf : Addr → Prop}
theorem Thaw.env (t : Thaw H Nf) (e0 : Env0 P w K mg base A outer s H) : Env0 P w K mg base A outer s (wn H Nf) := by
  have off : ∀ {b : Addr}, H b = none → wn H Nf b = none := fun {b} e => (wn_ni (t.offN e)).trans e
  refine ⟨e0.frames, e0.mod, fun b o e => ⟨(e0.bs b o e).1, off (e0.bs b o e).2⟩, e0.bsz, e0.funs, fun b hb => off (e0.frf b hb), fun a o e => ?_, e0.bare⟩
  obtain ⟨_, e'⟩ := wn_some e
  refine (e0.hok a o e').stay (fun b u _ q => q) (fun b q => ?_) fun b xs q => ?_
  · rw [wn_ni (t.off q fun _ z => nomatch z)]; exact q
  · rw [wn_ni (t.off q fun _ z => nomatch z)]; exact q
/-- the heap behind: the frozen cells as they were -/
theorem Thaw.hok {B : Heap} {H3 : Hp} (t : Thaw H Nf) (hf : ∀ b o, H b = some (.frz o okT) → Nf b → B.get? b = some o ∧ H3 b = none) (hok : HOk P w H3 B) : HOk P w (mixN Nf H H3) B := fun a o e => by
  by_cases c : Nf a
  · rw [mix_in c] at e
    obtain ⟨ob, _, q, _⟩ := t.all a c
    rw [q] at e; cases e
    exact okT_ok (hf a ob q c).1
  · rw [mix_ni c] at e
    have nn : ∀ {b : Addr} {o : HO}, H3 b = some o → ¬ Nf b := fun {b o} q z => by
      obtain ⟨ob, _, q2, _⟩ := t.all b z
      rw [(hf b ob q2 z).2] at q; cases q
    refine (hok a o e).stay (fun b u _ q => q) (fun b q => ?_) fun b xs q => ?_
    · rw [mix_ni (nn q)]; exact q
    · rw [mix_ni (nn q)]; exact q
theorem Thaw.back (t : Thaw H Nf) (e0 : Env0 P w K mg base A outer s H) {Q : VK} {u : Value} {s' : Shared} (h : CE outer P w (wn H Nf) s (fun v H3 => (∀ b, Nf b → H3 b = none) → Q v (mixN Nf H H3)) u s') : CE outer P w H s Q u s' := by
  obtain ⟨v, H3, os, bare, un, hok, r, q⟩ := h
  have off : ∀ {b : Addr}, H b = none → wn H Nf b = none := fun {b} e => (wn_ni (t.offN e)).trans e
  have at_ : ∀ b o, H b = some (.frz o okT) → Nf b → s.heap.get? b = some o := fun b o e _ => (e0.hok b _ e).1
  have nfr : ∀ b, Nf b → b ∉ frs outer := fun b z hb => t.offN (e0.frf b hb) z
  have hf : ∀ b o, H b = some (.frz o okT) → Nf b → s'.heap.get? b = some o ∧ H3 b = none := fun b o e z =>
    ⟨un.keep b o (at_ b o e z) (wn_in z) (nfr b z) (by simp), un.free b o (at_ b o e z) (wn_in z) (by simp)⟩
  refine ⟨v, mixN Nf H H3, os, bare, ⟨fun b o e n h1 h2 => un.keep b o e (off n) h1 h2, fun b o e n h1 h2 => un.slot b o e (off n) h1 h2, fun b o e n h2 => (mix_ni (t.offN n)).trans (un.free b o e (off n) h2), un.there, fun b xs e => ?_, fun b o u e => ?_, fun b ps e => ?_⟩, t.hok hf hok, r, q fun b z => let ⟨ob, _, e, _⟩ := t.all b z; (hf b ob e z).2⟩
  · have c := t.off e fun _ z => nomatch z
    rw [mix_ni c]; exact un.tups b xs ((wn_ni c).trans e)
  · by_cases c : Nf b
    · exact (mix_in c).trans e
    · rw [mix_ni c]; exact un.frzs b o u ((wn_ni c).trans e)
  · have c := t.off e fun _ z => nomatch z
    obtain ⟨more, z⟩ := un.tbls b ps ((wn_ni c).trans e)
    exact ⟨more, by rw [mix_ni c]; exact z⟩
/-- what is let out is let out from the frozen state too -/
def Backs (CX : CXT) (P : Program) (w : World) (K : PySem.W.Frag) (mg : Str → Option Value) (base : Heap) : Prop := ∀ (A : Around) (outer : List Env) (s : Shared) (H : Hp) (Nf : Addr → Prop) (E : XK) (e : Value) (s' : Shared), Thaw H Nf → Env0 P w K mg base A outer s H →
  CX outer (wn H Nf) s (fun c d H3 => (∀ b, Nf b → H3 b = none) → E c d (mixN Nf H H3)) e s' → CX outer H s E e s'
theorem backs0 : Backs L2.CX0 P w K mg base := fun _ _ _ _ _ _ _ _ _ _ z => z
theorem backsX : Backs (L2.CX P w) P w K mg base := fun A outer s H Nf E e s' t e0 ⟨a, B, H3, cls, d, e1, fl, hok, un, na, os, bare, hE⟩ => by
  have off : ∀ {b : Addr}, H b = none → wn H Nf b = none := fun {b} e => (wn_ni (t.offN e)).trans e
  have at_ : ∀ b o, H b = some (.frz o okT) → Nf b → s.heap.get? b = some o := fun b o e _ => (e0.hok b _ e).1
  have nfr : ∀ b, Nf b → b ∉ frs outer := fun b z hb => t.offN (e0.frf b hb) z
  have hf : ∀ b o, H b = some (.frz o okT) → Nf b → B.get? b = some o ∧ H3 b = none := fun b o e z =>
    ⟨un.keep b o (at_ b o e z) (wn_in z) (nfr b z), un.free b o (at_ b o e z) (wn_in z)⟩
  have nA : ¬ Nf a := fun z => by
    obtain ⟨ob, _, q, _⟩ := t.all a z
    have z2 := (hf a ob q z).1
    rw [fl.2.1] at z2; cases z2
  refine ⟨a, B, mixN Nf H H3, cls, d, e1, fl, t.hok hf hok, ⟨fun b o e n h1 => un.keep b o e (off n) h1, un.slot, fun b o e n => (mix_ni (t.offN n)).trans (un.free b o e (off n)), un.there, fun b xs e => ?_, fun b o u e => ?_, fun b ps e => ?_⟩, (mix_ni nA).trans na, os, bare, hE fun b z => let ⟨ob, _, q, _⟩ := t.all b z; (hf b ob q z).2⟩
  · have c := t.off e fun _ z => nomatch z
    rw [mix_ni c]; exact un.tups b xs ((wn_ni c).trans e)
  · by_cases c : Nf b
    · exact (mix_in c).trans e
    · rw [mix_ni c]; exact un.frzs b o u ((wn_ni c).trans e)
  · have c := t.off e fun _ z => nomatch z
    obtain ⟨more, z⟩ := un.tbls b ps ((wn_ni c).trans e)
    exact ⟨more, by rw [mix_ni c]; exact z⟩
end
theorem lam_cal {CX : CXT} {P : Program} {w : World} {K : PySem.W.Frag} {mg : Str → Option Value} {base : Heap} {N ps fr : List Str} {F : LF} {f : Addr} {k : Nat} {sp : Sp} {S S0 : Hp} {ws : List (Option V)} (C : CloK S f F fr ws) (Sc : NScope N ps fr F.scope) (bk : Backs CX P w K mg base)
    (hb : ∀ (pm ctv : Value) (us : List Value), us.length = ps.length → bindArgs (F.fd pm ctv) ⟨us, []⟩ = pure (ps.zip us)) (len : ∀ vs H Q E, sp vs H Q E → vs.length = ps.length) (e0 : Ex S0 S) (n0 : ∀ y c, F.cl.lookup y = some c → S0 c = none)
    (hbody : ∀ (A : Around) (outer : List Env) (s : Shared) (H : Hp) (vs : List V) (Q : VK) (E : XK), Room k (A.deeper (envF F.nf f s.heap.objs.size)) → Ex S H → Ex S0 (wn H (clN F)) → sp vs H Q E →
      ∃ t, PE (ncx CX P w K mg base N F.nf f A outer s (wn H (clN F)) (fun c d H3 => (∀ b, clN F b → H3 b = none) → E c d (mixN (clN F) H H3))) F.body t ∧ t (startF N vs ws) (wn H (clN F)) (fun v H3 => (∀ b, clN F b → H3 b = none) → Q v (mixN (clN F) H H3))) :
    Cal P w K mg base CX (k + 1) f sp S := by
  refine ⟨⟨F, C.fn⟩, fun A outer s H us vs Q E eS hr e1 r hsp => ?_⟩
  have C' := C.mono eS
  have t : Thaw H (clN F) := ⟨fun b ⟨y, z⟩ => C'.all y b z⟩
  have hl := len _ _ _ _ hsp
  have lim : s.heap.NoLimit := e1.mod.nolimit.keeps fun b o e => (e1.bs b o e).1
  obtain ⟨od, sl, pm, ctv, ho⟩ := lamO_at e1.hok C'.fn
  refine PySem.W.kla_callFunE hr.depth ho rfl Sc.co Sc.gen rfl (codeO_at e1.hok C'.co) ?_
  rw [hb pm ctv us (by rw [← r.length]; exact hl)]
  refine wpAny_pure (wpAny_newFunctionEnv Sc.nocell (fun ⟨n, _⟩ hy => Sc.par n (List.of_mem_zip hy).1) (fun h₁ hns hsb => ⟨lim.fresh _ hsb, ?_⟩) Sc.kind)
  show codeAny _ _ (.expr F.body (envF F.nf f s.heap.objs.size)) _ _
  have kp : ∀ b o, s.heap.get? b = some o → h₁.get? b = some o := fun b o e => hsb.extBut b o (Nat.ne_of_lt (Heap.lt_size e)) (Heap.get?_push_of_some _ e)
  have x0 : Ex S0 (wn H (clN F)) := fun b o e => by
    rw [wn_ni fun ⟨y, z⟩ => by rw [n0 y b z] at e; cases e]
    exact eS _ _ (e0 _ _ e)
  obtain ⟨tb, ht, hq⟩ := hbody A outer s H vs Q E (hr.deeper _) eS x0 hsp
  have cells : CellsAt F.cl fr ws s.heap (wn H (clN F)) := ⟨C'.len, fun y c e => ⟨wn_in ⟨y, e⟩, let ⟨o, v, q1, q2⟩ := C'.all y c e; ⟨v, o, (e1.hok c _ q1).1, q2⟩⟩, C'.inj, fun i y e => let ⟨c, q1, q2⟩ := C'.has i y e; ⟨c, q1, fun v hv => let ⟨o, u, q3, q4, q5⟩ := q2 v hv; ⟨u, q5, o, (e1.hok c _ q3).1, q4⟩⟩⟩
  have I : Inv (ncx CX P w K mg base N F.nf f A outer s (wn H (clN F)) (fun c d H3 => (∀ b, clN F b → H3 b = none) → E c d (mixN (clN F) H H3))) [] (startF N vs ws) (wn H (clN F)) { s with heap := h₁, toks := s.toks + (ps.zip us).length } := inv_startN (F := F.nf) Sc hr.hd (t.env e1) hl r cells hns kp
  refine PySem.W.kla_codeExpr (wpAny_mono (ht.run [] _ _ _ _ I hq) (fun v s' hv => ?_) fun e s' he => wpAny_mono he (fun _ s'' z => bk A outer s H _ E e s'' t e1 z) fun e' s'' z => bk A outer s H _ E e' s'' t e1 z)
  obtain ⟨v', H', J, rv, q⟩ := hv
  exact t.back e1 ⟨v', H', J.os, J.bare, J.base, J.hok, rv, q⟩
end Sw
namespace Sw
open PySem PySem.Spec PyProof.Rows L2 Evl LamX NdefX
/-- a def whose code object stands at c -/
structure FunC (K : PySem.W.Frag) (x qual : Str) (st : Stmt) (f : Addr) (fd : FuncData) (c : Addr) : Prop where
  ex : ∃ (oc : Value) (od : Option Addr) (kV doc pm : Value) (an : Option Addr) (ct : Value) (osl : Array (Option Value)), fd = PySem.W.fnOf x qual (L2.defArgs st) (L2.defBody st) (L2.defScope st) .none kV doc pm an (.ref c) ct ∧ K.lookup f = some ⟨oc, od, .func fd, osl⟩ ∧ PySem.W.codeIn K (.ref c) qual = true
theorem FunC.ok {P : Program} {w : World} {K : PySem.W.Frag} {mg : Str → Option Value} {base : Heap} {x qual : Str} {st : Stmt} {f : Addr} {fd : FuncData} {c : Addr} {N ps : List Str} {k : Nat} {sp : Sp} (F : FunC K x qual st f fd c) (S : FnScope N ps (L2.defScope st)) (len : ∀ vs H Q E, sp vs H Q E → vs.length = ps.length)
    (hbody : ∀ (A : Around) (outer : List Env) (s : Shared) (H : Hp) (vs : List V) (Q : VK) (E : XK), Room k (A.deeper (envOfC qual (L2.defScope st) s.heap.objs.size f (.ref c))) → sp vs H Q E →
      ∃ t, PSs (cxOf L2.CX0 P w K mg base N qual (L2.defScope st) f (.ref c) A outer s H E).nox (L2.defBody st) t ∧ t { nx := fun _ H' => Q .non H', rt := Q } (L2.start N vs) H) : FnOk P w K mg base L2.CX0 (k + 1) f fd ps sp := by
  obtain ⟨oc, od, kV, doc, pm, an, ct, osl, rfl, lk, hcd⟩ := F.ex
  exact fn_of lk hcd S len fun A outer s H vs Q E hr hsp => let ⟨t, h, q⟩ := hbody A outer s H vs Q E hr hsp; ⟨t, h.nox, q⟩
theorem funC_mk {K : PySem.W.Frag} {x qual : Str} {st : Stmt} {f c : Addr} {oc : Value} {od an : Option Addr} {osl : Array (Option Value)} {kV doc pm ct : Value} (l : K.lookup f = some ⟨oc, od, .func (PySem.W.fnOf x qual (L2.defArgs st) (L2.defBody st) (L2.defScope st) .none kV doc pm an (.ref c) ct), osl⟩)
    (h : PySem.W.codeIn K (.ref c) qual = true) : FunC K x qual st f (PySem.W.fnOf x qual (L2.defArgs st) (L2.defBody st) (L2.defScope st) .none kV doc pm an (.ref c) ct) c := ⟨oc, od, kV, doc, pm, an, ct, osl, rfl, l, h⟩
/-! ### a heap without its tables -/
def nt (H : Hp) : Hp := fun b => match H b with
  | some (.tbl _) => none
  | o => o
theorem nt_of {H : Hp} {b : Addr} {o : HO} (e : H b = some o) (n : ∀ ps, o ≠ .tbl ps) : nt H b = some o := by
  unfold nt
  rw [e]
  cases o <;> first | rfl | exact absurd rfl (n _)
theorem nt_some {H : Hp} {b : Addr} {o : HO} (e : nt H b = some o) : H b = some o ∧ ∀ ps, o ≠ .tbl ps := by
  unfold nt at e
  cases q : H b with
  | none => rw [q] at e; cases e
  | some u =>
    rw [q] at e
    cases u <;> first | (cases e; exact ⟨rfl, fun _ z => nomatch z⟩) | cases e
theorem nt_ex {H : Hp} : Ex (nt H) H := fun _ _ e => (nt_some e).1
theorem extN_nt {H H1 : Hp} (e : ExtN H H1) : Ex (nt H) (nt H1) := fun b o h => nt_of (e b o (nt_some h).1 (nt_some h).2) (nt_some h).2
theorem extN_of {H H1 : Hp} (e : Ex H H1) : ExtN H H1 := fun b o h _ => e b o h
theorem extN_wn {H H1 : Hp} {N : Addr → Prop} (e : ExtN H H1) : ExtN (wn H N) (wn H1 N) := fun b o h n => by
  obtain ⟨q1, q2⟩ := wn_some h
  rw [wn_ni q1]; exact e b o q2 n
theorem nt_t {K : PySem.W.Frag} {H : Hp} {a : Addr} {xs : List V} (h : SqT K H a xs) : SqT K (nt H) a xs := by
  rcases h with (h | ⟨u, h⟩) | h
  · exact .inl (.inl (nt_of h fun _ z => nomatch z))
  · exact .inl (.inr ⟨u, nt_of h fun _ z => nomatch z⟩)
  · exact .inr h
theorem nt_l {K : PySem.W.Frag} {H : Hp} {a : Addr} {xs : List V} (h : SqL K H a xs) : SqL K (nt H) a xs := by
  rcases h with (h | ⟨u, h⟩) | h
  · exact .inl (.inl (nt_of h fun _ z => nomatch z))
  · exact .inl (.inr ⟨u, nt_of h fun _ z => nomatch z⟩)
  · exact .inr h
theorem tabsN_ext {T : List NTab} {H H' : Hp} (t : TabsN T H) (e : Ex H H') : TabsN T H' := t.ext e
end Sw
namespace Sw
open PySem PySem.Spec PyProof.Rows L2 Evl LamX NdefX
/-! ### lambdas with one parameter that has a number as its default -/
theorem evalD {M : Model} {A : Around} {E Q : Value → Shared → Prop} {s : Shared} {params : Arguments} {body e : Expr} {scope : Scope} {pos : Pos} {env : Env} (hdef : defaultsOf params env = ([eval e env], []))
    (h : wpAny M A (eval e env) (fun v s1 => wpAny M A (makeFunction "<lambda>" (env.qual ++ "<lambda>") params (.expr body) scope env [v] [] [] pos pos.line) Q E s1) E s) : wpAny M A (eval (.Lambda params body scope pos) env) Q E s := by
  rw [arm_eval_Lambda, hdef]
  show wpAny M A (do let dv ← evalAll [eval e env]; let kdv ← holding dv (evalAllOpt []); makeFunction "<lambda>" (env.qual ++ "<lambda>") params (.expr body) scope env dv kdv [] pos pos.line) Q E s
  refine wpAny_bind ?_
  show wpAny M A (eval e env >>= fun v => holding [v] (evalAll []) >>= fun r => pure (v :: r)) _ E s
  refine wpAny_bind (wpAny_mono h (fun v s1 h1 => ?_) fun _ _ z => z)
  exact wpAny_bind (wpAny_holding (wpAny_pure (wpAny_pure (wpAny_bind (wpAny_holding (wpAny_pure h1))))))
section
variable {X : Cx} {pins : List (Addr × Obj)} {σ : L2.St} {H : Hp} {s : Shared}
theorem lam_newD {T : List NTab} {nm : Nat → Nat → Str} {c P : Addr} {params : Arguments} {body e : Expr} {scope : Scope} {pos : Pos} {i : Int} {E Q : Value → Shared → Prop} (I : Inv X pins σ H s) (TB : TabB X.base X.mg c P) (hcode : X.env.code = .ref c) (hm : (P, nm) ∈ T)
    (hn : nm pos.line pos.col = X.env.qual ++ "<lambda>") (hu : ∀ p ∈ T, p.1 = P → p.2 = nm) (hT : TabsN T H) (he : PE X e (tC (.int i))) (hE : E = X.xe) (hdef : defaultsOf params X.env = ([eval e X.env], [])) (hfree : ∀ y ∈ scope.names, y.2 = .free → ∃ c, X.env.cells.lookup y.1 = some c)
    (fin : ∀ (f c' t : Addr) (H1 : Hp) (s' : Shared), Inv X pins σ H1 s' → ExtN H H1 → (∀ b, H1 b = Option.none → H b = Option.none) → TabsN T H1 → H f = none → H1 f = some (LamO f ⟨X.env.qual ++ "<lambda>", params, body, scope, cloFrom X.env.cells scope.names [], c', .ref t⟩) → H1 c' = some (CodeO c' (X.env.qual ++ "<lambda>")) → H1 t = some (.tup [.int i]) → Q (.ref f) s') :
    wpAny (model X.prog X.w) X.A (eval (.Lambda params body scope pos) X.env) Q E s := by
  subst hE
  refine evalD hdef (thn (he.run pins s σ H (fun v H1 => v = .int i ∧ H1 = H) I ⟨rfl, rfl⟩) fun u s1 ⟨v, H1, I1, r, ev, eH⟩ => ?_)
  subst ev eH
  obtain ⟨tk, rfl⟩ := (show ∃ t, u = Value.int i t from r)
  rw [makeFunction_eq]
  simp only [List.zip_nil_right, List.filterMap_nil, List.isEmpty_nil, List.isEmpty_cons, Bool.false_eq_true, if_false, if_true, pure_bind]
  refine wpAny_bind (wpAny_newTextTuple ?_)
  have nT : H1 s1.heap.objs.size = none := I1.hok.fresh (Nat.le_refl _)
  have I2 := I1.laid (h' := s1.heap.push ({ cls := .type "tuple", data := .seq #[Value.int i tk] } : Obj)) (o := .tup [.int i]) (t' := s1.toks) (fun b u e => Heap.get?_push_of_some _ e) (Nat.le_refl _) ⟨by show 1 ≤ sizeLine; decide, [Value.int i tk], .cons ⟨tk, rfl⟩ .nil, ⟨_, Heap.get?_push_size _ rfl, rfl, _, rfl⟩⟩
  exact lam_tail (dv := .ref s1.heap.objs.size) I2 TB hcode hm hn hu (hT.ext fun b o e => (upd_ne (ne_of_none e nT)).trans e) hfree fun f c' H3 s' I3 e1 e2 e3 e4 e5 e6 =>
    fin f c' s1.heap.objs.size H3 s' I3 (fun b o hb n => e1 b o ((upd_ne (ne_of_none hb nT)).trans hb) n) (fun b z => upd_none (e2 b z)) e3 (upd_none e4) e5 e6 (e1 _ _ upd_same fun _ z => nomatch z)
end
/-- the reading of such a lambda -/
def tLamD (T : List NTab) (mk : Addr → Addr → LF) (i : Int) : TE := fun σ H Q => TabsN T H ∧ ∀ (f c' t : Addr) (H1 : Hp), ExtN H H1 → (∀ b, H1 b = Option.none → H b = Option.none) → TabsN T H1 → H f = none → H1 f = some (LamO f (mk c' t)) → H1 c' = some (CodeO c' (mk c' t).qual) → H1 t = some (.tup [.int i]) → Q (.ref f) H1
theorem pe_lamD {X : Cx} {T : List NTab} {nm : Nat → Nat → Str} {c P : Addr} {params : Arguments} {body e : Expr} {scope : Scope} {pos : Pos} {i : Int} (TB : TabB X.base X.mg c P) (hcode : X.env.code = .ref c) (hm : (P, nm) ∈ T) (hn : nm pos.line pos.col = X.env.qual ++ "<lambda>") (hu : ∀ p ∈ T, p.1 = P → p.2 = nm) (he : PE X e (tC (.int i)))
    (hdef : defaultsOf params X.env = ([eval e X.env], [])) (hfree : ∀ y ∈ scope.names, y.2 = .free → X.env.scope.names.lookup y.1 = some .cell ∨ X.env.scope.names.lookup y.1 = some .free) :
    PE X (.Lambda params body scope pos) (tLamD T (fun c' t => ⟨X.env.qual ++ "<lambda>", params, body, scope, cloFrom X.env.cells scope.names [], c', .ref t⟩) i) := by
  refine ⟨fun pins s σ H Q I ⟨hT, h⟩ => ?_⟩
  exact lam_newD I TB hcode hm hn hu hT he rfl hdef (fun y hy e => (hfree y hy e).elim (fun z => I.ok.has _ (.inl z)) fun z => I.ok.has _ (.inr z)) fun f c' t H1 s' I1 e1 e2 e3 e4 e5 e6 e7 => ⟨.ref f, H1, I1, rfl, h f c' t H1 e1 e2 e3 e4 e5 e6 e7⟩
theorem lam_calD {CX : CXT} {P : Program} {w : World} {K : PySem.W.Frag} {mg : Str → Option Value} {base : Heap} {N fr : List Str} {p : Str} {F : LF} {f t : Addr} {i : Int} {k : Nat} {sp : Sp} {S S0 : Hp} {ws : List (Option V)} (C : CloK S f F fr ws) (ht : S t = some (.tup [.int i])) (Sc : NScope N [p] fr F.scope) (bk : Backs CX P w K mg base)
    (hb : ∀ (pm ctv u : Value) (s : Shared) (o : Obj) (n : Nat), s.heap.get? t = some o → o.data = .seq #[u] n → BindsTo s (F.fd pm ctv) ⟨[], []⟩ [(p, u)]) (len : ∀ vs H Q E, sp vs H Q E → vs = []) (e0 : Ex S0 S) (n0 : ∀ y c, F.cl.lookup y = some c → S0 c = none)
    (hbody : ∀ (A : Around) (outer : List Env) (s : Shared) (H : Hp) (Q : VK) (E : XK), Room k (A.deeper (envF F.nf f s.heap.objs.size)) → Ex S H → Ex S0 (wn H (clN F)) → sp [] H Q E →
      ∃ t, PE (ncx CX P w K mg base N F.nf f A outer s (wn H (clN F)) (fun c d H3 => (∀ b, clN F b → H3 b = none) → E c d (mixN (clN F) H H3))) F.body t ∧ t (startF N [.int i] ws) (wn H (clN F)) (fun v H3 => (∀ b, clN F b → H3 b = none) → Q v (mixN (clN F) H H3))) :
    Cal P w K mg base CX (k + 1) f sp S := by
  refine ⟨⟨F, C.fn⟩, fun A outer s H us vs Q E eS hr e1 r hsp => ?_⟩
  obtain rfl := len _ _ _ _ hsp
  cases r
  have C' := C.mono eS
  have th : Thaw H (clN F) := ⟨fun b ⟨y, z⟩ => C'.all y b z⟩
  have lim : s.heap.NoLimit := e1.mod.nolimit.keeps fun b o e => (e1.bs b o e).1
  obtain ⟨od, sl, pm, ctv, ho⟩ := lamO_at e1.hok C'.fn
  obtain ⟨_, its, ri, o, ho2, hc2, n, hd2⟩ := (show ObjOk P w H s.heap t (.tup [.int i]) from e1.hok t _ (eS _ _ ht))
  cases ri with | cons ru rn =>
  cases rn
  rename_i u
  refine PySem.W.kla_callFunE hr.depth ho rfl Sc.co Sc.gen rfl (codeO_at e1.hok C'.co) (hb pm ctv u s o n ho2 hd2 _ _ _ _ ?_)
  refine wpAny_newFunctionEnv Sc.nocell (fun ⟨n, _⟩ hy => Sc.par n (by have z := List.mem_singleton.mp hy; rw [(Prod.mk.inj z).1]; exact List.mem_singleton.mpr rfl)) (fun h₁ hns hsb => ⟨lim.fresh _ hsb, ?_⟩) Sc.kind
  show codeAny _ _ (.expr F.body (envF F.nf f s.heap.objs.size)) _ _
  have kp : ∀ b o, s.heap.get? b = some o → h₁.get? b = some o := fun b o e => hsb.extBut b o (Nat.ne_of_lt (Heap.lt_size e)) (Heap.get?_push_of_some _ e)
  have x0 : Ex S0 (wn H (clN F)) := fun b o e => by
    rw [wn_ni fun ⟨y, z⟩ => by rw [n0 y b z] at e; cases e]
    exact eS _ _ (e0 _ _ e)
  obtain ⟨tb, ht, hq⟩ := hbody A outer s H Q E (hr.deeper _) eS x0 hsp
  have cells : CellsAt F.cl fr ws s.heap (wn H (clN F)) := ⟨C'.len, fun y c e => ⟨wn_in ⟨y, e⟩, let ⟨o, v, q1, q2⟩ := C'.all y c e; ⟨v, o, (e1.hok c _ q1).1, q2⟩⟩, C'.inj, fun i y e => let ⟨c, q1, q2⟩ := C'.has i y e; ⟨c, q1, fun v hv => let ⟨o, u, q3, q4, q5⟩ := q2 v hv; ⟨u, q5, o, (e1.hok c _ q3).1, q4⟩⟩⟩
  have I : Inv (ncx CX P w K mg base N F.nf f A outer s (wn H (clN F)) (fun c d H3 => (∀ b, clN F b → H3 b = none) → E c d (mixN (clN F) H H3))) [] (startF N [.int i] ws) (wn H (clN F)) { s with heap := h₁, toks := s.toks + ([p].zip [u]).length } := inv_startN (F := F.nf) Sc hr.hd (th.env e1) rfl (.cons ru .nil) cells hns kp
  refine PySem.W.kla_codeExpr (wpAny_mono (ht.run [] _ _ _ _ I hq) (fun v s' hv => ?_) fun e s' he => wpAny_mono he (fun _ s'' z => bk A outer s H _ E e s'' th e1 z) fun e' s'' z => bk A outer s H _ E e' s'' th e1 z)
  obtain ⟨v', H', J, rv, q⟩ := hv
  exact th.back e1 ⟨v', H', J.os, J.bare, J.base, J.hok, rv, q⟩
end Sw
namespace Sw
open PySem PySem.Spec PyProof.Rows L2 Evl LamX NdefX
/-! ### a comprehension in which the def's cells are known: frozen from its start to its end -/
/-- what is not frozen any more -/
theorem un_thaw {fr ex : List Addr} {H Hz H5 : Hp} {g g' : Heap} {N : Addr → Prop} (u : Un fr ex Hz H5 g g') (out : ∀ b, ¬ N b → Hz b = H b) (off : ∀ b, N b → H b = none) (inn : ∀ b, N b → ∃ o, g.get? b = some o ∧ Hz b = some (.frz o okT)) (at_ : ∀ b o, H5 b = some (.frz o okT) → g'.get? b = some o) : Un fr ex H (wn H5 N) g g' := by
  have cell : ∀ {b : Addr} {o : Obj}, N b → g.get? b = some o → H5 b = some (.frz o okT) ∧ g'.get? b = some o := fun {b o} n e => by
    obtain ⟨o', e1, e2⟩ := inn b n
    rw [e] at e1; cases e1
    have z := u.frzs b o okT e2
    exact ⟨z, at_ b o z⟩
  have zn : ∀ {b : Addr}, ¬ N b → H b = none → Hz b = none := fun n e => (out _ n).trans e
  refine ⟨?_, ?_, ?_, u.there, ?_, ?_, ?_⟩
  · intro b o e n h1 h2
    by_cases c : N b
    · exact (cell c e).2
    · exact u.keep b o e (zn c n) h1 h2
  · intro b o e n h1 h2
    by_cases c : N b
    · exact ⟨o.slots, (cell c e).2⟩
    · exact u.slot b o e (zn c n) h1 h2
  · intro b o e n h2
    by_cases c : N b
    · exact wn_in c
    · exact (wn_ni c).trans (u.free b o e (zn c n) h2)
  · intro b xs e
    have c : ¬ N b := fun z => by rw [off b z] at e; cases e
    exact (wn_ni c).trans (u.tups b xs ((out b c).trans e))
  · intro b o v e
    have c : ¬ N b := fun z => by rw [off b z] at e; cases e
    exact (wn_ni c).trans (u.frzs b o v ((out b c).trans e))
  · intro b ps e
    have c : ¬ N b := fun z => by rw [off b z] at e; cases e
    obtain ⟨more, z⟩ := u.tbls b ps ((out b c).trans e)
    exact ⟨more, (wn_ni c).trans z⟩
theorem hok_thaw {P : Program} {w : World} {H5 : Hp} {g : Heap} {N : Addr → Prop} (k : HOk P w H5 g) (fz : ∀ b, N b → ∃ o, H5 b = some (.frz o okT)) : HOk P w (wn H5 N) g := fun a o e => by
  obtain ⟨c, e'⟩ := wn_some e
  have nc : ∀ {b : Addr} {u : HO}, H5 b = some u → (∀ ob, u ≠ .frz ob okT) → ¬ N b := fun {b u} q ne n => by
    obtain ⟨ob, e1⟩ := fz b n
    rw [e1] at q
    exact ne ob (Option.some.inj q).symm
  refine (k a o e').stay (fun _ _ _ q => q) (fun b q => ?_) fun b xs q => ?_
  · rw [wn_ni (nc q fun _ z => nomatch z)]; exact q
  · rw [wn_ni (nc q fun _ z => nomatch z)]; exact q
/-- a block's start with more known -/
theorem blk_frz {X : Cx} {t3 t4 : Shared} {H3 Hz : Hp} {scope : Scope} {ce : Env} {fp : List Addr} {σ' : L2.St} {N : Addr → Prop} (J : Inv (X.blk t3 H3 scope ce fp) [] σ' H3 t4) (kp : ∀ b u, t3.heap.get? b = some u → t4.heap.get? b = some u) (out : ∀ b, ¬ N b → Hz b = H3 b) (off : ∀ b, N b → H3 b = none)
    (inn : ∀ b, N b → ∃ o, t3.heap.get? b = some o ∧ Hz b = some (.frz o okT)) (nb : ∀ b, N b → X.base.get? b = none) (ns : ∀ b, N b → b ∉ frs X.stack) (nl : ∀ b, N b → b ≠ ce.locals) (nc : ∀ y b, ce.cells.lookup y = some b → ¬ N b) : Inv (X.blk t3 Hz scope ce fp) [] σ' Hz t4 := by
  have k := J.ok
  refine ⟨⟨k.mod, k.kind, k.glob, k.blt, k.above, k.inj, k.has, k.cab, k.hd, k.frames, k.stk, k.exf, fun b o e => ⟨(k.bs b o e).1, ?_⟩, k.bsz, k.noex, k.exfs, k.funs, fun b e => ?_⟩, J.os, J.bare, Un.kept kp, J.loc, J.cell, ?_, fun y c e => ?_, fun p hp => absurd (show p ∈ ([] : List (Addr × Obj)) ++ [] from hp) (by simp), ?_, J.len⟩
  · have n : ¬ N b := fun z => by have q := nb b z; rw [e] at q; cases q
    exact (out b n).trans (k.bs b o e).2
  · have n : ¬ N b := fun z => ns b z e
    exact (out b n).trans (k.frf b e)
  · have n : ¬ N ce.locals := fun z => nl _ z rfl
    exact (out _ n).trans J.free
  · exact (out c (nc y c e)).trans (J.freeC y c e)
  · intro a o e
    by_cases n : N a
    · obtain ⟨ob, e1, e2⟩ := inn a n
      rw [e2] at e; cases e
      exact okT_ok (kp _ _ e1)
    · rw [out a n] at e
      have t : ∀ {b : Addr} {u : HO}, H3 b = some u → Hz b = some u := fun {b u} q => (out b fun z => by rw [off b z] at q; cases q).trans q
      exact (J.hok a o e).stay (fun _ _ _ q => q) (fun b q => t q) fun b xs q => t q
/-- its reading -/
def tLcF (X : Cx) (wi : TI) (g : TG) (te : TE) (vs : List Nat) : TE := fun σ H Q => wi σ H fun J H1 => ∀ Hz N, Frz X σ H1 Hz N → ∀ D, Hz D = none → ∃ W : Nat → Nat → Hp → Prop, (∃ m, W 0 m (upd Hz D (.lst []))) ∧ ∀ i m H, W i m H →
  (J.stop i H ∧ Q (.ref D) (wn H N)) ∨ (J.go i H ∧ ∃ Nx : Hp → Prop, (∀ H', Nx H' → ∃ m', m' < m ∧ W (i + 1) m' H') ∧ ∀ x H', J.yld i H x H' → g x (wipe σ vs) H' fun σ2 H2 => wipe σ2 vs = wipe σ vs ∧
    te σ2 H2 fun y H4 => ∃ acc, H4 D = some (.lst acc) ∧ acc.length < sizeLine ∧ Nx (upd H4 D (.lst (acc ++ [y]))))
section
variable {X : Cx}
theorem lcF_core {pn : List (Addr × Obj)} {t : Shared} {σ : L2.St} {H : Hp} {Q : VK} {el tg itr : Expr} {sc : Scope} {own : List (Str × Nat)} {po po' : Pos} {wi : TI} {g : TG} {te : TE} {Qf : Value → Shared → Prop} (calm : X.calm = true) (hfn : ∀ y, X.fn y = true) (J : Inv X pn σ H t) (pi : PI X tg itr wi) (ok : BlkOk X.N X.env.scope sc own) (nodup : X.N.Nodup) (nf : ∀ y ∈ sc.names, y.2 ≠ .free)
    (pg : ∀ (t : Shared) (H : Hp) (C : Addr) (cl : List (Str × Addr)) (fp : List Addr), PG (X.blk t H sc (compEnvC sc cl C X.env) fp) tg g) (pe : ∀ (t : Shared) (H : Hp) (C : Addr) (cl : List (Str × Addr)) (fp : List Addr), PE (X.blk t H sc (compEnvC sc cl C X.env) fp) el te) (fo : ∀ x, foldedSetIterable itr X.env x = pure x)
    (rd : tLcF X wi g te (own.map (·.2)) σ H Q) (fin : ∀ D C t' m H', Inv X pn σ H' t' → Q (.ref D) H' → t'.heap.Ns C m → FpOk X pn H' C → compPost (model X.prog X.w) X.A X.xe none Qf (.ref D) C (.ok .next) t') :
    wpAny (model X.prog X.w) X.A (comprehension (.ListComp el [⟨tg, itr, [], 0⟩] sc po) sc X.env po' (newList []) false (eval itr X.env) none) Qf X.xe t := by
  refine wpAny_comprehension_free (use := none) rfl fo (closure_ok fun y hy e => absurd e (nf y hy)) ok.kind (fun y hy e => by rw [ok.uniq y hy, e]) (thn (pi.run pn t σ H _ J rd) fun xv t1 hx => thn hx fun iv t2 h2 => ?_)
  obtain ⟨it, fp, tn, Jt, H2, e, J2, T, st2, f2, q⟩ := h2
  subst e
  obtain ⟨Hz, N, fz, e0, _⟩ := frz_env J2 hfn
  refine wpAny_newObj_type (newEnv_comp ?_) (Nat.zero_le _)
  generalize hD : t2.heap.objs.size = D
  have Dn : Hz D = none := e0.hok.fresh (Nat.le_of_eq hD)
  have Dn2 : H2 D = none := J2.hok.fresh (Nat.le_of_eq hD)
  obtain ⟨W, ⟨m0, w0⟩, turn⟩ := q Hz N fz D Dn
  -- the cells: where they stand
  have cellAt : ∀ b, N b → ∃ o, t2.heap.get? b = some o ∧ Hz b = some (.frz o okT) := fun b n => by
    obtain ⟨o, v, e1, _⟩ := fz.inn b n
    exact ⟨o, (e0.hok b _ e1).1, e1⟩
  have nlt : ∀ b, N b → b < t2.heap.objs.size := fun b n => let ⟨o, e1, _⟩ := cellAt b n; Heap.lt_size e1
  have nge : ∀ b, N b → X.s_0.heap.objs.size ≤ b := fun b n => let ⟨y, e1⟩ := (fz.iff b).mp n; J2.ok.cab y b (hfn y) e1
  generalize ht3 : ({ t2 with heap := t2.heap.push { cls := .type "list", data := .seq ([] : List Value).toArray } } : Shared) = t3
  have hp3 : t3.heap = t2.heap.push { cls := .type "list", data := .seq ([] : List Value).toArray } := by rw [← ht3]
  have k23 : ∀ b u, t2.heap.get? b = some u → t3.heap.get? b = some u := fun b u e => by rw [hp3]; exact Heap.get?_push_of_some _ e
  have J3 : Inv X pn σ (upd H2 D (.lst [])) t3 := by
    rw [← ht3]
    refine J2.laid (t' := t2.toks) (fun b u e => Heap.get?_push_of_some _ e) (Nat.le_of_eq hD) ⟨Nat.zero_le _, [], 0, .nil, ?_⟩
    rw [← hD]; exact Heap.get?_push_size _ rfl
  have neD : ∀ b, b < t2.heap.objs.size → b ≠ D := fun b z => by rw [← hD]; exact Nat.ne_of_lt z
  have lt2 : ∀ b ∈ fp, b < t2.heap.objs.size := fun b hb => let ⟨o, e, _⟩ := T.obj _ _ st2 b hb; Heap.lt_size e
  have sz3 : t3.heap.objs.size = t2.heap.objs.size + 1 := by rw [hp3, Heap.size_push]
  have fp3 : ∀ b ∈ fp, FpOk X pn (upd H2 D (.lst [])) b ∧ b < t3.heap.objs.size := fun b hb => by
    have z := lt2 b hb
    exact ⟨⟨(upd_ne (neD b z)).trans (f2 b hb).1, (f2 b hb).2⟩, by rw [sz3]; exact Nat.lt_succ_of_lt z⟩
  have st3 : tn 0 t3.heap := T.keep _ _ _ st2 fun b _ u e => k23 b u e
  have J4 := block_start J3 ok nodup fp3
  generalize hcl : cellsFrom (t3.heap.objs.size + 1) sc.names (cloFrom X.env.cells sc.names []) = cls at J4 ⊢
  have k34 : ∀ b u, t3.heap.get? b = some u → (pushCells (t3.heap.push { cls := .type "dict", data := .dict #[] }) sc.names).get? b = some u := fun b u e => pushCells_keeps _ _ _ _ (Heap.get?_push_of_some _ e)
  have cnew : ∀ y c, (compEnvC sc cls t3.heap.objs.size X.env).cells.lookup y = some c → ¬ N c := fun y c e n => by
    have e : cls.lookup y = some c := e
    rw [← hcl, ← Heap.size_push t3.heap { cls := .type "dict", data := .dict #[] }] at e
    rcases cells_mem (PySem.mem_of_lookup e) with hm | ⟨_, z, _⟩
    · rcases cloFrom_mem hm with hm | ⟨z, _⟩
      · cases hm
      · exact nf _ z rfl
    · rw [Heap.size_push, sz3] at z
      exact absurd (Nat.lt_of_lt_of_le (nlt c n) (Nat.le_trans (Nat.le_trans (Nat.le_succ _) (Nat.le_succ _)) z)) (Nat.lt_irrefl _)
  have J5 := blk_frz (Hz := upd Hz D (.lst [])) (N := N) J4 k34 (fun b n => by
      by_cases z : b = D
      · rw [z, upd_same, upd_same]
      · rw [upd_ne z, upd_ne z]; exact fz.out b n) (fun b n => (upd_ne (neD b (nlt b n))).trans (fz.off b n))
    (fun b n => let ⟨o, a1, a2⟩ := cellAt b n; ⟨o, k23 _ _ a1, (upd_ne (neD b (nlt b n))).trans a2⟩)
    (fun b n => by
      cases z : X.base.get? b with
      | none => rfl
      | some u => exact absurd (Nat.lt_of_lt_of_le (Heap.lt_size z) (Nat.le_trans J2.ok.bsz (nge b n))) (Nat.lt_irrefl _))
    (fun b n z => by
      rcases List.mem_cons.mp (J2.stkSub b z) with z | z
      · obtain ⟨y, e1⟩ := (fz.iff b).mp n
        exact J2.cne y b e1 z
      · obtain ⟨_, o, ho, _⟩ := J2.ok.funs.mem z
        exact absurd (Nat.lt_of_lt_of_le (Heap.lt_size ho) (nge b n)) (Nat.lt_irrefl _))
    (fun b n z => by have q1 : b = t3.heap.objs.size := z; exact absurd q1 (Nat.ne_of_lt (by rw [sz3]; exact Nat.lt_succ_of_lt (nlt b n)))) cnew
  have nfz : ∀ b ∈ fp, (upd Hz D (.lst [])) b = none := fun b hb => by
    have z := lt2 b hb
    rw [upd_ne (neD b z), fz.out b fun n => by obtain ⟨y, e1⟩ := (fz.iff b).mp n; exact (f2 b hb).2.2.2.2.1 y b e1 rfl]
    exact (f2 b hb).1
  show codeAny _ _ (.compStart (.ListComp el [⟨tg, itr, [], 0⟩] sc po) 0 (.ref it) (.ref D) (compEnvC sc cls t3.heap.objs.size X.env)) (compPost (model X.prog X.w) X.A X.xe none Qf (.ref D) t3.heap.objs.size) { t3 with heap := pushCells (t3.heap.push { cls := .type "dict", data := .dict #[] }) sc.names }
  have pg' := pg t3 (upd Hz D (.lst [])) t3.heap.objs.size cls fp
  have pe' := pe t3 (upd Hz D (.lst [])) t3.heap.objs.size cls fp
  generalize hce : compEnvC sc cls t3.heap.objs.size X.env = ce at J5 pg' pe' ⊢
  have cL : ce.locals = t3.heap.objs.size := by subst hce; rfl
  generalize hz3 : upd Hz D (.lst []) = Hz3 at J5 pg' pe' w0 nfz
  have hz3N : ∀ b, ¬ N b → Hz3 b = upd H2 D (.lst []) b := fun b n => by
    rw [← hz3]
    by_cases z : b = D
    · rw [z, upd_same, upd_same]
    · rw [upd_ne z, upd_ne z]; exact fz.out b n
  have hz3I : ∀ b, N b → ∃ o, t3.heap.get? b = some o ∧ Hz3 b = some (.frz o okT) := fun b n => by
    obtain ⟨o, a1, a2⟩ := cellAt b n
    exact ⟨o, k23 _ _ a1, by rw [← hz3]; exact (upd_ne (neD b (nlt b n))).trans a2⟩
  generalize ht4 : ({ t3 with heap := pushCells (t3.heap.push { cls := .type "dict", data := .dict #[] }) sc.names } : Shared) = t4 at J5 ⊢
  have st4 : tn 0 t4.heap := T.keep _ _ _ st3 fun b _ u e => by rw [← ht4]; exact k34 b u e
  have stood : ∀ {σ' : L2.St} {H' : Hp} {t' : Shared}, Inv (X.blk t3 Hz3 sc ce fp) [] σ' H' t' → (∀ b ∈ fp, H' b = none) → ∀ b ∈ fp, FpOk (X.blk t3 Hz3 sc ce fp) [] H' b := fun {σ' H' t'} K n b hb =>
    ⟨n b hb, (K.ok.exf b hb).1, K.ok.exfs b hb, .inl hb, fun x c e => (K.ok.exf b hb).2 x c e, fun p hp => absurd (show p ∈ ([] : List (Addr × Obj)) ++ [] from hp) (by simp)⟩
  have loop : codeAny (model X.prog X.w) X.A (.compLoop (.ListComp el [⟨tg, itr, [], 0⟩] sc po) 0 (.ref it) (.ref D) ce) (compPost (model X.prog X.w) X.A X.xe none Qf (.ref D) t3.heap.objs.size) t4 := by
    refine compLoop_any (fun n t' => ∃ i H', Inv (X.blk t3 Hz3 sc ce fp) [] (wipe σ (own.map (·.2))) H' t' ∧ tn i t'.heap ∧ (∀ b ∈ fp, H' b = none) ∧ W i n H') ?_ m0 ⟨0, Hz3, J5, st4, nfz, w0⟩
    rintro n t5 ⟨i, H5, K5, st5, n5, w5⟩
    rcases turn i n H5 w5 with ⟨stop, qq⟩ | ⟨gg, Nx, hNx, step⟩
    · refine thnF (T.done (X.blk t3 Hz3 sc ce fp) rfl rfl rfl calm i [] t5 _ H5 (fun _ _ => False) K5 (stood K5 n5) st5 stop) fun r t6 ⟨hr, K6⟩ => ?_
      subst hr
      have bs := K6.base
      have J7 : Inv X pn σ (wn H5 N) t6 := J3.call' (ch := fp) K6.os (un_thaw bs hz3N (fun b n => (upd_ne (neD b (nlt b n))).trans (fz.off b n)) hz3I fun b o e => (K6.hok b _ e).1) (hok_thaw K6.hok fun b n => let ⟨o, _, a2⟩ := hz3I b n; ⟨o, bs.frzs b o okT a2⟩) K6.bare
        fun b hb => ⟨(fp3 b hb).1.2.2.2.1, (fp3 b hb).1.2.1, (fp3 b hb).1.2.2.2.2.1, (fp3 b hb).1.2.2.2.2.2⟩
      have nC : H5 t3.heap.objs.size = none := by have z : H5 ce.locals = none := K6.free; rw [cL] at z; exact z
      have nN : ¬ N t3.heap.objs.size := fun z => absurd (nlt _ z) (by rw [sz3]; exact Nat.not_lt_of_le (Nat.le_succ _))
      obtain ⟨mm, hn, _⟩ := K6.loc
      have hn : t6.heap.Ns ce.locals mm := hn
      rw [cL] at hn
      exact fin D t3.heap.objs.size t6 mm _ J7 qq hn (J3.fpOk (Nat.le_refl _) ((wn_ni nN).trans nC))
    · refine thnF (T.item (X.blk t3 Hz3 sc ce fp) rfl rfl rfl calm i [] t5 _ H5 (fun _ _ => False) K5 (stood K5 n5) st5 gg) fun r t6 ⟨u, hr, h6⟩ => ?_
      subst hr
      refine thnF h6 fun _ t7 ⟨x, H7, K7, r7, y7, st7, n7⟩ => ?_
      have K7' := K7.pinned (stood K7 n7) (T.obj _ _ st7)
      refine thnF (pg'.run _ t7 _ H7 x u _ K7' r7 (step x H7 y7)) fun _ t8 ⟨σ8, H8, K8, hw8, q8⟩ => ?_
      refine thnF ((pts_nil (X := X.blk t3 Hz3 sc ce fp)).run _ t8 σ8 H8 (fun b G => b = true ∧ G = H8) K8 ⟨rfl, rfl⟩) fun b t9 ⟨H9, K9, hb, eG⟩ => ?_
      subst hb eG
      simp only [if_true]
      refine thnF (pe'.run _ t9 σ8 H9 _ K9 q8) fun z t10 ⟨yv, H10, K10, r10, acc, hD10, hz10, nx⟩ => ?_
      refine app_ok (X := X.blk t3 Hz3 sc ce fp) K10 hD10 hz10 r10 fun t11 K11 => ?_
      obtain ⟨m', hm, w'⟩ := hNx _ nx
      have pin' : ∀ b ∈ fp, ∀ o, t7.heap.get? b = some o → t11.heap.get? b = some o ∧ (upd H10 D (.lst (acc ++ [yv]))) b = none := fun b hb o e =>
        let z := K11.pin (b, o) (List.mem_append_right _ (List.mem_append_right _ (mem_pinsAt hb e))); ⟨z.1, z.2.1⟩
      have hl : (wipe σ (own.map (·.2))).length = σ8.length := by rw [← hw8]; exact wipe_length _ _
      exact ⟨m', hm, i + 1, _, (K11.unpinned (pins := [])).weak hl (fun j v e => by rw [← hw8] at e; exact (wipe_some e).1), T.keep _ _ _ st7 fun b hb o e => (pin' b hb o e).1,
        fun b hb => let ⟨o, e, _⟩ := T.obj _ _ st7 b hb; (pin' b hb o e).2, w'⟩
  exact codeAny_compStart_list loop (T.self X.A 0 _ _ _ st4 loop)
theorem pe_lcF {el tg itr : Expr} {sc : Scope} {own : List (Str × Nat)} {po : Pos} {wi : TI} {g : TG} {te : TE} (calm : X.calm = true) (nodup : X.N.Nodup) (pi : PI X tg itr wi) (ok : BlkOk X.N X.env.scope sc own) (nf : ∀ y ∈ sc.names, y.2 ≠ .free)
    (pg : ∀ (t : Shared) (H : Hp) (C : Addr) (cl : List (Str × Addr)) (fp : List Addr), PG (X.blk t H sc (compEnvC sc cl C X.env) fp) tg g) (pe : ∀ (t : Shared) (H : Hp) (C : Addr) (cl : List (Str × Addr)) (fp : List Addr), PE (X.blk t H sc (compEnvC sc cl C X.env) fp) el te)
    (hfn : ∀ y, X.fn y = true := by intro _; rfl) (fo : ∀ x, foldedSetIterable itr X.env x = pure x := by intro _; rfl) : PE X (.ListComp el [⟨tg, itr, [], 0⟩] sc po) (tLcF X wi g te (own.map (·.2))) := by
  refine ⟨fun pn t σ H Q J rd => ?_⟩
  rw [eval_ListComp]
  refine lcF_core calm hfn J pi ok nodup nf pg pe fo rd fun D C t' m H' K q hn ⟨f0, f1, f2, f3, f4, f5⟩ => ⟨m, hn, fun h'' sb => ?_⟩
  exact ⟨.ref D, H', K.turned (t' := t'.toks) (fun b u hb e => (sb.2 b hb).trans e) f0 f1 f3 f4 f5, rfl, q⟩
end
end Sw
namespace Sw
open PySem PySem.Spec PyProof.Rows L2 Evl LamX NdefX
/-! ### an exception's own __init__ that begins with super().__init__(..) -/
/-- what the written part says of such a method: its object, its code, its cell, its class -/
structure SupF (P : Program) (K : PySem.W.Frag) (qual : Str) (st : Stmt) (f : Addr) (fd : FuncData) (cda cc D : Addr) : Prop where
  ex : ∃ (oc : Value) (od : Option Addr) (kV doc pm : Value) (an : Option Addr) (ct : Value) (osl : Array (Option Value)), fd = PySem.W.ksFn "__init__" qual (L2.defArgs st) (L2.defBody st) (L2.defScope st) .none kV doc pm an (.ref cda) ct cc ∧ K.lookup f = some ⟨oc, od, .func fd, osl⟩ ∧ PySem.W.codeIn K (.ref cda) qual = true
  code : ∃ (oc : Value) (od : Option Addr) (vs : Array Value) (sl : Array (Option Value)) (file : Str) (tf : Tok), K.lookup cda = some ⟨oc, od, .fields vs, sl⟩ ∧ vs[2]? = some (.str file tf) ∧ ((P.main.file : Str) == file) = true
  cell : ∃ (oc : Value) (od : Option Addr) (sl : Array (Option Value)), K.lookup cc = some ⟨oc, od, .cell (some (.ref D)), sl⟩
  any : PySem.W.nsIn K cStatics "thirdparty.any" = some none
  sup : PySem.W.ks_superIn K D D "__init__" = some (some (.builtin "ValueError.__init__"))
  sub : PySem.W.mroIn K D (.ref D) = some true
  subV : PySem.W.subIn K (.ref D) (.type "ValueError") = some true
  top : (P.main.scope.names.lookup ("super" : Str)).isSome = false
theorem inv_pin {X : Cx} {pins : List (Addr × Obj)} {σ : L2.St} {H : Hp} {s : Shared} {p : Addr × Obj} (I : Inv X pins σ H s) (h : s.heap.get? p.1 = some p.2 ∧ H p.1 = none ∧ p.1 ≠ X.env.locals ∧ p.1 ∉ X.fs ∧ ∀ v, p.2.data ≠ .cell v) : Inv X (p :: pins) σ H s := I.pins_of fun q hq => by
  rcases List.mem_cons.mp hq with rfl | hq
  · exact h
  · exact I.pin q (List.mem_append_right _ hq)
theorem inv_unpin {X : Cx} {pins : List (Addr × Obj)} {σ : L2.St} {H : Hp} {s : Shared} {p : Addr × Obj} (I : Inv X (p :: pins) σ H s) : Inv X pins σ H s := I.pins_of fun q hq => I.pin q (List.mem_append_right _ (List.mem_cons_of_mem _ hq))
/-- the bound initializer is called: the exception's arguments are set, nothing of them is told -/
theorem mw_call {X : Cx} {pins : List (Addr × Obj)} {σ : L2.St} {H : Hp} {s : Shared} {C a u : Addr} {us : List Value} {Q : Value → Shared → Prop} {E : Value → Shared → Prop} {A : Around} (T : OexC X.K C) (I : Inv X pins σ H s) (e : H a = some (exo a C none)) (hu : s.heap.get? u = some (PySem.W.kxs_mw "ValueError.__init__" a)) (hl : us.length ≤ sizeLine)
    (h : ∀ s', Inv X pins σ H s' → Q .none s') : wpAny (model X.prog X.w) A (call (.ref u) us) Q E s := by
  obtain ⟨nm, q, N, bs, bm, sn, sub, ab, col, dd, k0, k1, k2, k3, k5, hC, hbm⟩ := T.cls
  obtain ⟨t1, ho⟩ := exo_at I.hok e
  have kI := I.kIn _ _ hC
  have eu : upd H a (exo a C none) = H := by
    funext b
    by_cases hb : b = a
    · rw [hb, upd_same, e]
    · rw [upd_ne hb]
  obtain ⟨hp, g, d, t, os⟩ := s
  refine wpAny_call (codeAny_of_tree ?_)
  show wpAny _ A.in1 (callAny (.ref u) ⟨us, []⟩) _ _ _
  simp only [callAny]
  refine wpAny_bind (wpAny_load hu ?_)
  simp only [PySem.W.kxs_mw, show (Value.type "method-wrapper" == Value.type "method" || Value.type "method-wrapper" == Value.type "builtin_function_or_method" || Value.type "method-wrapper" == Value.type "method-wrapper") = true by decide, if_true]
  refine PySem.W.KFB.if_so (by decide) ?_
  refine wpAny_bind (PySem.W.check_bound_init PySem.F.excBase_ValueError.toExcCallFacts kI ho rfl ?_)
  refine wpAny_bind (wpAny_pure (wpAny_pure ?_))
  refine ⟨plainId_quiet PySem.F.excBase_ValueError.init.plain _, codeAny_builtin PySem.F.excBase_ValueError.initEntry ?_⟩
  refine PySem.W.exc_init_tree (cls := .ref C) (t0 := t1) (dv := none) (c2 := .none) (c3 := .none) (b4 := .bool false) ho hl fun h' k hx _ => ?_
  have J := I.write (t' := t) (x := a) (e := a) (o := exo a C none) (by rw [e]; exact True.intro) (.inl rfl) k ⟨_, hx⟩ (exo_ok hx)
  rw [eu] at J
  exact h _ J
/-- such a method keeps its promise -/
theorem sup_fn {CX : CXT} {P : Program} {w : World} {K : PySem.W.Frag} {mg : Str → Option Value} {base : Heap} {k : Nat} {f cda cc D : Addr} {fd : FuncData} {qual : Str} {st : Stmt} {N ps : List Str} {sp : Sp} {ar : Arg} {x : Expr} {rest : List Stmt} {p0 p1 p2 pos1 pos2 : Pos} {pl : Sem Bool}
    (F : SupF P K qual st f fd cda cc D) (T : OexC K D) (hst : L2.defBody st = .Expr (.Call (.Attribute (.Call (.Name "super" p0) [] [] p1) "__init__" p2) [x] [] pos1) pos2 :: rest) (S : NScope N ps ["__class__"] (L2.defScope st))
    (hself : ((L2.defArgs st).posonlyargs ++ (L2.defArgs st).args).head? = some ar) (hN0 : N[0]? = some ar.arg) (hka : (L2.defScope st).names.lookup ar.arg = some .local) (hks : (L2.defScope st).names.lookup ("super" : Str) = some .globalImplicit) (hmg : mg "super" = none)
    (hpl : ∀ env : Env, eval (.Call (.Attribute (.Call (.Name "super" p0) [] [] p1) "__init__" p2) [x] [] pos1) env = (do
      let ov ← attributeBase (.Call (.Name "super" p0) [] [] p1) "__init__" env (eval (.Call (.Name "super" p0) [] [] p1) env)
      standAt p2.atName
      let (f, first) ← holding [ov] (getMethod ov "__init__" pl)
      callWith pos1 f first (backTo pos1 (starEach [x] env)) [])) (hsw : ∀ (l : Nat) (env : Env), swapsWith (.Call (.Attribute (.Call (.Name "super" p0) [] [] p1) "__init__" p2) [x] [] pos1) none l env = pure false) (hsx : ∀ env : Env, starEach [x] env = (false, eval x env) :: starEach [] env)
    (len : ∀ vs H Q E, sp vs H Q E → vs.length = ps.length)
    (hbody : ∀ (A : Around) (outer : List Env) (s : Shared) (H : Hp) (vs : List V) (Q : VK) (E : XK), Room k (A.deeper (envF ⟨"__init__", qual, L2.defArgs st, L2.defBody st, L2.defScope st, [("__class__", cc)], cda⟩ f s.heap.objs.size)) → sp vs H Q E →
      ∃ (ta : TA) (tr : TS) (a : Addr) (ws : List V), PA (ncx CX P w K mg base N ⟨"__init__", qual, L2.defArgs st, L2.defBody st, L2.defScope st, [("__class__", cc)], cda⟩ f A outer s H E) [x] ta ∧ PSs (ncx CX P w K mg base N ⟨"__init__", qual, L2.defArgs st, L2.defBody st, L2.defScope st, [("__class__", cc)], cda⟩ f A outer s H E) rest tr ∧
        vs = .ref a :: ws ∧ H a = some (exo a D none) ∧ ta (startF N vs [none]) H (fun us H1 => us.length ≤ 1000 ∧ H1 a = some (exo a D none) ∧ tr { nx := fun _ H' => Q .non H', rt := Q } (startF N vs [none]) H1)) :
    FnOk P w K mg base CX (k + 1) f fd ps sp := by
  obtain ⟨oc, od, kV, doc, pm, an, ct, osl, rfl, lk, hcd⟩ := F.ex
  obtain ⟨oc1, od1, cvs, sl1, file, tf, hcode, hvs, hfile⟩ := F.code
  obtain ⟨oc2, od2, sl2, hcell⟩ := F.cell
  obtain ⟨nm, q, NN, bs, bm, sn, sub, ab, col, dd, k0, k1, k2, k3, k5, hC, hbm⟩ := T.cls
  have hcl : PySem.W.clsIn K D = some { name := nm, bases := bs, mro := .ref D :: bm, ns := NN, qualname := q, hasDict := true, slotNames := sn, subclasses := sub, abstract := ab, collection := col, hasDel := false } := by unfold PySem.W.clsIn; rw [hC] <;> rfl
  refine ⟨len, fun A outer s H args us vs Q E hr e0 hb r hsp => ?_⟩
  have hl := len _ _ _ _ hsp
  have KX : K.In s.heap := e0.mod.kin.keeps fun b o e => (e0.bs b o e).1
  have lim : s.heap.NoLimit := e0.mod.nolimit.keeps fun b o e => (e0.bs b o e).1
  have kc : (L2.defScope st).names.lookup ("__class__" : Str) = some .free := S.frk _ (by simp)
  refine ks_codeAny_call_defAt (body := .Expr (.Call (.Attribute (.Call (.Name "super" p0) [] [] p1) "__init__" p2) [x] [] pos1) pos2 :: rest) (binds := ps.zip us) hr.depth (KX _ _ lk) rfl lim (PySem.W.codeRec_of KX hcd) (by rw [← hst]) hb S.nocell (fun ⟨n, v⟩ hy => S.par n (List.of_mem_zip hy).1) (fun h₁ hns kp => ?_) S.co S.gen S.kind
  obtain ⟨ta, tr, a, ws, hx, hrest, rfl, ea, hq⟩ := hbody A outer s H vs Q E (hr.deeper _) hsp
  have hlk : ∀ (y : Str) (c : Addr), List.lookup y [(("__class__" : Str), cc)] = some c → y = "__class__" ∧ c = cc := fun y c e => by
    cases h : (y == ("__class__" : Str)) with
    | true => simp only [List.lookup, h, Option.some.injEq] at e; exact ⟨beq_iff_eq.mp h, e.symm⟩
    | false => simp [List.lookup, h] at e
  have cells : CellsAt [(("__class__" : Str), cc)] ["__class__"] [none] s.heap H := by
    refine ⟨rfl, fun y c e => ?_, fun y z c e1 e2 => (hlk y c e1).1.trans (hlk z c e2).1.symm, fun i y e => ?_⟩
    · rw [(hlk y c e).2]; exact ⟨(e0.bs _ _ (e0.mod.kin _ _ hcell)).2, _, _, KX _ _ hcell, rfl⟩
    · match i, e with
      | 0, e => cases e; exact ⟨cc, rfl, fun v hv => by cases hv⟩
  have I : Inv (ncx CX P w K mg base N ⟨"__init__", qual, L2.defArgs st, L2.defBody st, L2.defScope st, [("__class__", cc)], cda⟩ f A outer s H E) [] (startF N (V.ref a :: ws) [none]) H { s with heap := h₁, toks := s.toks + (ps.zip us).length } := inv_startN (F := ⟨"__init__", qual, L2.defArgs st, L2.defBody st, L2.defScope st, [("__class__", cc)], cda⟩) S hr.hd e0 hl r cells hns kp
  refine ks_wpAt_execs_cons (ks_wpAt_Expr_any (ks_wpAt_MethodCall (pl := pl) ?_ (hpl _)) I.quiet (hsw _ _))
  have ho := exo_at I.hok ea
  obtain ⟨t1, ho⟩ := ho
  obtain ⟨mb, hb1, hb2⟩ := I.mod.blt
  have hD := I.kIn _ _ hC
  refine ks_wpAt_super_base hks kc rfl rfl (I.kIn _ _ lk) rfl hself rfl (I.kIn _ _ hcode) rfl hvs hfile F.top ?_
  refine PySem.W.ks_loadName_global S.kind hks (Calls.loadGlobal_builtin (I.mod.glob.keeps I.bk) hmg (hb1.keeps I.bk) ((hb2 _ (by decide)).trans (by first | boot_by_name | rfl | kernel_rfl)) ⟨rfl, ?_⟩)
  refine wpAny_loadName_free S.kind kc rfl ⟨_, I.kIn _ _ hcell, rfl⟩ ?_
  obtain ⟨m, hn, hlo⟩ := I.loc
  obtain ⟨u, ru, lku⟩ := hlo 0 ar.arg (.ref a) hN0 rfl (.inl hka)
  obtain rfl : u = Value.ref a := ru
  have hv : m ar.arg = some (Value.ref a) := by
    rcases lku with ⟨_, z⟩ | ⟨z, _⟩
    · exact z
    · have z' : (L2.defScope st).names.lookup ar.arg = some .cell ∨ (L2.defScope st).names.lookup ar.arg = some .free := z
      rw [hka] at z'; rcases z' with z' | z' <;> cases z'
  refine wpAny_loadName_local S.kind hka hn hv ?_
  refine ks_wpAny_isType_cls hD rfl ⟨rfl, ?_⟩
  refine ks_wpAny_call_super hD rfl ho rfl (fun c z => by cases z) (PySem.W.looks_mroIn I.kIn F.sub) (fun h' eso kk => ?_)
  have I1 := I.kept (t' := s.toks + (ps.zip us).length) kk
  have ho1 := kk _ _ ho
  have LT : PySem.W.Looks (model P w) h' (typeOf (.ref a)) (.ref D) := fun A Q E s k q => wpAny_typeOf_ref (k _ _ ho1) q
  have LI : PySem.W.Looks (model P w) h' (isInstance (.ref a) (.type "ValueError")) true := LT.andThen (PySem.W.looks_subIn I1.kIn F.subV)
  have ne : a ≠ D := fun z => by
    subst z
    rw [ho] at hD
    cases hD
  have hsup : PySem.W.alongIn K "__init__" (((Value.ref D :: bm).dropWhile (· != Value.ref D)).drop 1) = some (some (.builtin "ValueError.__init__")) := by
    have z := F.sup
    unfold PySem.W.ks_superIn at z
    rw [hcl] at z
    exact z
  refine PySem.W.kxs_getMethod PySem.W.kxs_ValueError eso (PySem.W.looks_opaque I1.kIn F.any) (l₀ := .ref D :: bm) (fun A Q E s k q => wpAny_bind ((PySem.W.looks_clsIn I1.kIn hcl) A _ E s k (wpAny_pure q))) rfl I1.kIn hsup LI ne rfl ?_
  have I2 := I1.kept (t' := s.toks + (ps.zip us).length + 1) (h' := h'.push (PySem.W.kxs_mw "ValueError.__init__" a)) (fun b o e => Heap.get?_push_of_some _ e)
  have gu : (h'.push (PySem.W.kxs_mw "ValueError.__init__" a)).get? h'.objs.size = some (PySem.W.kxs_mw "ValueError.__init__" a) := Heap.get?_push_size _ rfl
  have nl : h'.objs.size ≠ s.heap.objs.size := Nat.ne_of_gt I1.lt
  have I3 := inv_pin (p := (h'.objs.size, PySem.W.kxs_mw "ValueError.__init__" a)) I2 ⟨gu, I1.hok.fresh (Nat.le_refl _), nl, I1.nofs (Nat.le_refl _), fun v z => nomatch z⟩
  have hxr := fun pos => hx.run pos _ _ _ _ _ I3 hq
  have hsx' := hsx (envF ⟨"__init__", qual, L2.defArgs st, L2.defBody st, L2.defScope st, [("__class__", cc)], cda⟩ f s.heap.objs.size)
  show wpAny _ _ (callWith pos1 (.ref h'.objs.size) [] (backTo pos1 (starEach [x] (envF ⟨"__init__", qual, L2.defArgs st, L2.defBody st, L2.defScope st, [("__class__", cc)], cda⟩ f s.heap.objs.size))) []) _ _ _
  have hx1 := hxr pos1
  have hx2 : wpAny (model P w) (A.deeper (envF ⟨"__init__", qual, L2.defArgs st, L2.defBody st, L2.defScope st, [("__class__", cc)], cda⟩ f s.heap.objs.size)) (spliced (backTo pos1 (starEach [x] (envF ⟨"__init__", qual, L2.defArgs st, L2.defBody st, L2.defScope st, [("__class__", cc)], cda⟩ f s.heap.objs.size)))) _ _ _ := hx1
  rw [hsx'] at hx2 ⊢
  refine PySem.W.kxs_callWith (i := "ValueError.__init__") (x := a) rfl (Calls.evalArgs_plain (wpAny_mono hx2 (fun vv s1 hs1 => ?_) fun e s' z => z))
  obtain ⟨vs1, H1, J1, r1, hz, ea1, q1⟩ := hs1
  have pu := (J1.pin _ (List.mem_append_right _ List.mem_cons_self)).1
  refine ⟨pu, ?_⟩
  refine mw_call T J1 ea1 pu (by rw [List.nil_append, ← Paired.length r1, sizeLine_eq]; omega) fun s2 J2 => ?_
  refine wpAt_of_wpAny (wpAny_mono (hrest.run [] _ _ _ _ (inv_unpin J2) q1) (fun fl s' hs => ?_) fun e s' z => z)
  have fin : ∀ {σ' : L2.St} {H' : Hp} {v : V} {u : Value}, Inv (ncx CX P w K mg base N ⟨"__init__", qual, L2.defArgs st, L2.defBody st, L2.defScope st, [("__class__", cc)], cda⟩ f A outer s H E) [] σ' H' s' → RelV v u → Q v H' → CE outer P w H s Q u s' :=
    fun {σ' H' v u} J rv q => ⟨v, H', J.os, J.bare, J.base, J.hok, rv, q⟩
  cases fl with
  | ret u =>
    obtain ⟨v, σ', H', J, rv, q⟩ := hs
    exact fin J rv q
  | next =>
    obtain ⟨σ', H', J, q⟩ := hs
    exact fin (v := V.non) (u := Value.none) J rfl q
  | brk =>
    obtain ⟨_, _, _, q⟩ := hs
    exact False.elim q
  | cont =>
    obtain ⟨_, _, _, q⟩ := hs
    exact False.elim q
end Sw
namespace Sw
open PySem PySem.Spec PyProof.Rows L2 Evl LamX NdefX
/-! ### promises of defs that may raise -/
section
variable {P : Program} {w : World} {K : PySem.W.Frag} {mg : Str → Option Value} {base : Heap} {CX : CXT} {k : Nat} {f : Addr} {fd : FuncData} {ps : List Str} {sp sp' : Sp}
theorem fn_lift (F : FnOk P w K mg base L2.CX0 k f fd ps sp) : FnOk P w K mg base CX k f fd ps sp := ⟨F.len, fun A outer s H args us vs Q E hr e0 hb r h => codeAny_mono (F.run A outer s H args us vs Q E hr e0 hb r h) fun r s' hq => by
  match r, hq with
  | .error e, hq => exact (show False from hq).elim
  | .ok (.ret u), hq => exact hq
  | .ok .next, hq => exact (show False from hq).elim
  | .ok .brk, hq => exact (show False from hq).elim
  | .ok .cont, hq => exact (show False from hq).elim⟩
def spOr (a b : Sp) : Sp := fun vs H Q E => a vs H Q E ∨ b vs H Q E
theorem fn_or (F : FnOk P w K mg base CX k f fd ps sp) (G : FnOk P w K mg base CX k f fd ps sp') : FnOk P w K mg base CX k f fd ps (spOr sp sp') := ⟨fun vs H Q E h => h.elim (F.len vs H Q E) (G.len vs H Q E), fun A outer s H args us vs Q E hr e0 hb r h => h.elim (F.run A outer s H args us vs Q E hr e0 hb r) (G.run A outer s H args us vs Q E hr e0 hb r)⟩
end
/-! ### a call, within a try, of what goes with an address -/
def tCalS (P : Program) (w : World) (K : PySem.W.Frag) (mg : Str → Option Value) (base : Heap) (CX : CXT) (k i : Nat) (E : L2.St → XK) : TE := fun σ H Q => ∃ f sp S, σ[i]? = some (some (.ref f)) ∧ Cal P w K mg base CX k f sp S ∧ Ex S H ∧ sp [] H Q (E σ)
theorem pe_calS (P : Program) (w : World) (K : PySem.W.Frag) (mg : Str → Option Value) (base : Heap) {X : Cx} {CX : CXT} {i j k : Nat} {x : Str} {E : L2.St → XK} {p pos : Pos} (h1 : X.prog = P) (h2 : X.w = w) (h3 : X.K = K) (h4 : X.mg = mg) (h5 : X.base = base) (hr : Room j X.A) (hk : k ≤ j) (hx : ∀ σ, PassesAt CX X σ (E σ)) (hN : X.N[i]? = some x) (hv : Vis X.env.scope x)
    (hd : (x == ("__debug__" : Str)) = false := by decide) (hcd : (x == ("__classdict__" : Str)) = false := by decide) : PE X (.Call (.Name x p) [] [] pos) (tCalS P w K mg base CX k i E) := by
  subst h1 h2 h3 h4 h5
  refine ⟨fun pins s σ H Q I ⟨f, sp, S, hs, C, eS, q⟩ => ?_⟩
  refine wpAny_Call_Name_kw (thn ((pe_var (pos := p) hN hv hd hcd).run pins s σ H (fun v H1 => v = .ref f ∧ H1 = H) I ⟨.ref f, hs, rfl, rfl⟩) fun u s1 ⟨v, H1, I1, r1, ev, eH⟩ => ?_)
  subst ev eH
  obtain rfl : u = Value.ref f := r1
  refine PySem.W.callWith_F0 (first := []) (lam_fnAt I1 C eS) (wpAny_call (codeAny_mono (C.2 X.A X.stack s1 H1 [] [] Q (E σ) eS (hr.mono hk) I1.env0 .nil q) fun r s' hq => ?_))
  match r, hq with
  | .error e, hq => exact hx σ pins H1 s1 e s' I1 hq
  | .ok (.ret u), hq => exact I1.after hq
  | .ok .next, hq => exact False.elim hq
  | .ok .brk, hq => exact False.elim hq
  | .ok .cont, hq => exact False.elim hq
/-! ### isinstance of the caught exception -/
structure ExI (K : PySem.W.Frag) (C : Addr) : Prop where
  cl : (PySem.W.clsIn K C).isSome = true
  ga : PySem.W.findIn K (.ref C) "__getattribute__" = some (some (.builtin "BaseException.__getattribute__"))
  gg : PySem.W.findIn K (.ref C) "__getattr__" = some none
  ex : PySem.W.subIn K (.ref C) (.type "BaseException") = some true
  hd : PySem.W.hasDictIn K C = true
  ca : PySem.W.findIn K (.ref C) "__class__" = some (some (.builtin "object.__class__"))
  cg : PySem.W.specialIn K (.builtin "object.__class__") "__get__" = some (some (.builtin "getset_descriptor.__get__"))
  ct : PySem.W.takesIn K (.builtin "object.__class__") = some true
  mo : PySem.W.mroIn K C (.type "object") = some true
theorem ExI.xf {K : PySem.W.Frag} {C : Addr} (T : ExI K C) : XfC K C := ⟨T.ga, T.gg, T.ex, T.hd⟩
def rIsX (K : PySem.W.Frag) (a : Addr) (cls : Value) (d : Option Addr) : List V → Hp → VK → Prop := fun xs H Q => ∃ (D : Addr) (c : V) (cv : Value) (b : Bool), cls = .ref D ∧ ExI K D ∧ xs = [.ref a, c] ∧ (∀ u, RelV c u → u = cv) ∧ PySem.W.kitOne K (.ref D) cv = some b ∧ (∀ dd, d = some dd → ∃ fs, H dd = some (.xd fs)) ∧ Q (.bl b) H
theorem call_isX {X : Cx} (K : PySem.W.Frag) (hK : X.K = K) {a : Addr} {cls : Value} {d : Option Addr} {oe : Obj} {pn : List (Addr × Obj)} (hz : Zc cls d oe) (hf : ∃ vs, oe.data = .fields vs) : CallR (X.suite a ((a, oe) :: pn)) (.builtin "isinstance") (rIsX K a cls d) := by
  subst hK
  intro pins s σ H xs us Q I r h
  obtain ⟨D, c, cv, b, rfl, T, rfl, hcv, e, hd, q⟩ := h
  cases r with
  | cons rx rr =>
    cases rr with
    | cons rt rr =>
      cases rr
      cases rx
      have ec := hcv _ rt
      subst ec
      have hget := (I.pin (a, oe) (List.mem_append.mpr (.inl List.mem_cons_self))).1
      obtain ⟨fv, hv⟩ := hf
      obtain ⟨oc, od, oda, osl⟩ := oe
      obtain ⟨z1, z2⟩ := hz
      dsimp only at z1 z2 hv
      subst z1 z2 hv
      have go : ∀ o2, PySem.W.InstAt s.heap a ⟨.ref D, od, .fields fv, osl⟩ D o2 → wpAny (model X.prog X.w) (X.suite a ((a, ⟨.ref D, od, .fields fv, osl⟩) :: pn)).A (call (.builtin "isinstance") [.ref a, _]) (EP (X.suite a ((a, ⟨.ref D, od, .fields fv, osl⟩) :: pn)) pins σ Q) (X.suite a ((a, ⟨.ref D, od, .fields fv, osl⟩) :: pn)).xe s := fun o2 J =>
        PySem.W.kia_one (PySem.W.kitx_exc T.cl T.ga T.gg T.ex T.ca T.cg T.ct T.mo) I.kIn J e (fun z => nomatch z) fun tk => ⟨.bl b, H, I.kept (t' := tk) fun _ _ z => z, rfl, q⟩
      cases od with
      | none => exact go none ⟨hget, rfl, rfl, trivial⟩
      | some dd =>
        obtain ⟨fs, hfs⟩ := hd dd rfl
        obtain ⟨mA, hns, _⟩ := (I.hok dd _ hfs : ObjOk _ _ _ _ dd (.xd fs))
        obtain ⟨o, es, ep, ho, _⟩ := hns
        exact go (some o) ⟨hget, rfl, rfl, ho⟩
theorem ev_isX {K : PySem.W.Frag} {σ : L2.St} {H : Hp} {te tc : TE} {a D dd : Addr} {c : V} {cv : Value} {b : Bool} {fs : List (Str × V)} (T : ExI K D) (he : Ev te σ H (.ref a)) (hc : Ev tc σ H c) (hcv : ∀ u, RelV c u → u = cv) (hb : PySem.W.kitOne K (.ref D) cv = some b) (hd : H dd = some (.xd fs)) :
    Ev (tCB (rIsX K a (.ref D) (some dd)) (tCons te (tCons tc tNil))) σ H (.bl b) := fun H1 e Q q => he H1 e _ fun H2 e2 => hc H2 (e.trans e2) _ fun H3 e3 => ⟨D, c, cv, b, rfl, T, rfl, hcv, hb, fun d1 z => by cases z; exact ⟨fs, e3 _ _ (e2 _ _ (e _ _ hd))⟩, q H3 (e2.trans e3)⟩
/-! ### count and index of flat items -/
theorem eq_count {y : V} : ∀ {ys : List V} {us : List Value}, Vals ys us → ys.all flatV = true → us.countP (eqU y) = ys.countP (fun z => eqV z y)
  | _, _, .nil, _ => rfl
  | _, _, .cons (a := z) (b := u) r rs, f => by
    rw [List.all_cons, Bool.and_eq_true] at f
    rw [List.countP_cons, List.countP_cons, eq_count rs f.2, eqU_of r f.1]
def rCntF (K : PySem.W.Frag) : V → List V → Hp → VK → Prop := fun x xs H Q => ∃ (p : Addr) (ys : List V) (y : V), x = .ref p ∧ xs = [y] ∧ SqL K H p ys ∧ flatV y = true ∧ ys.all flatV = true ∧ Q (.int (ys.countP (fun z => eqV z y) : Nat)) H
theorem mt_lcountF {X : Cx} (K : PySem.W.Frag) (hK : X.K = K) : MtR X "list.count" (rCntF K) := by
  subst hK
  intro pins s σ H x xs v us Q I rx rxs ⟨p, ys, y, ex, exs, hs, fy, fys, q⟩
  subst ex exs
  cases rx
  obtain ⟨uy, rfl, ry⟩ := rxs.one
  obtain ⟨its, rv, ⟨⟨cls, dd, data, sl⟩, n, ho, hc, hdn, hd⟩, hlen⟩ := I.list hs
  simp only at hc hd
  subst hc hd
  refine call_meets PySem.F.slot_list_count ⟨_, ho, rfl⟩ PySem.F.entry_list_count (PySem.F.args_list_count_2 _ _) (SeqAt.list_countAt p its.toArray n dd sl uy (eqU y)) ⟨ho, fun u hu => mem_eqAt ry fy rv fys u (by simpa using hu), ?_⟩
  refine ⟨.int (ys.countP (fun z => eqV z y) : Nat), H, I.tok _, ⟨s.toks, ?_⟩, q⟩
  show Value.int ((its.toArray.toList.countP (eqU y) : Nat) : Int) s.toks = Value.int ((ys.countP (fun z => eqV z y) : Nat) : Int) s.toks
  rw [show its.toArray.toList = its from rfl, eq_count rv fys]
theorem mt_indexK {X : Cx} (K : PySem.W.Frag) (hK : X.K = K) : MtR X "list.index" (rIndex K) := by
  subst hK; exact mt_index
theorem pe_bmK {X : Cx} (K : PySem.W.Frag) {o e : Expr} {es : List Expr} {to : TE} {t : TA} {name : Str} {apos cpos : Pos} {Ty id : String} {r : V → List V → Hp → VK → Prop} (hK : X.K = K) (pa : PlainAttrs Ty) (slot : Slot Ty name id) (hty : typeOf (.builtin id) = pure (.type "method_descriptor")) (hm : MtR X id r) (ho : PE X o to) (ha : PA X (e :: es) t)
    (hbase : attributeBase o name X.env (eval o X.env) = eval o X.env := by rfl)
    (hfew : ((backTo cpos (starEach (e :: es) X.env)).all (fun x => !x.1) && (backToKw cpos (keywordEach [] X.env)).all (fun x => x.1.isSome) && decide ((e :: es).length + ([] : List Keyword).length + (if ([] : List Keyword).isEmpty then 0 else 1) < 30)) = true := by rfl)
    (hline : (apos.endLine == cpos.line) = true := by rfl) (hs : starEach (e :: es) X.env = (false, eval e X.env) :: starEach es X.env := by rfl) (hplain : (backTo cpos (starEach es X.env)).any (·.1) = false := by rfl) : PE X (.Call (.Attribute o name apos) (e :: es) [] cpos) (tBM K Ty r to t) := by
  subst hK; exact pe_bm pa slot hty hm ho ha hbase hfew hline hs hplain
end Sw
namespace Sw
open PySem PySem.Spec PyProof.Rows L2 Evl
theorem fnR_of {P : Program} {w : World} {K : PySem.W.Frag} {mg : Str → Option Value} {base : Heap} {CX : CXT} {k : Nat} {f : Addr} {fd : FuncData} {ps : List Str} {sp : Sp} (F : FnOk P w K mg base CX k f fd ps sp) (hb : Binds K fd ps []) : FnR P w K mg base CX k f sp :=
  (F.raw hb .nil).imp fun vs H Q E h => by rw [List.append_nil]; exact h
end Sw
namespace Sw
open PySem PySem.Spec PyProof.Rows L2
/-! ### zip of a list and a tuple; enumerate(list, start=k) -/
def ItzM (K : PySem.W.Frag) (a b : Addr) : It :=
  ⟨fun i H => ∃ (xs ys : List V) (x y : V), SqL K H a xs ∧ SqT K H b ys ∧ xs[i]? = some x ∧ ys[i]? = some y,
    fun i H v H' => ∃ T x y, v = .ref T ∧ H T = none ∧ H' = upd H T (.tup [x, y]) ∧ (∀ xs, SqL K H a xs → xs[i]? = some x) ∧ (∀ ys, SqT K H b ys → ys[i]? = some y),
    fun i H => ∃ xs ys : List V, SqL K H a xs ∧ SqT K H b ys ∧ xs.length = i ∧ ys.length = i⟩
theorem turn_zipM {P : Program} {w : World} {K : PySem.W.Frag} {elts : List Expr} {kk : Nat} {tpos : Pos} {a b z TI TO i1 i2 : Addr}
    (D : ZipSep2 z TI TO i1 i2 [i1, a] [i2, b]) (h1a : a ≠ i1) (h2b : b ≠ i2) :
    Turn P w K (.Tuple elts kk tpos) (ItzM K a b) [z, TI, TO, i1, i2] z (fun i h => IsZip h z TI TO .none ∧ IsTupOf2 h TI (.ref i1) (.ref i2) ∧ (∃ x y, IsTupOf2 h TO x y) ∧ h.IsListIter i1 a i ∧ h.IsTupleIter i2 b i) where
  mem := by simp
  obj := fun i h st d hd => by
    obtain ⟨hz, hTI, ⟨x, y, hTO⟩, ⟨o1, e1, _, d1⟩, ⟨o2, e2, _, d2⟩⟩ := st
    have e' : d = z ∨ d = TI ∨ d = TO ∨ d = i1 ∨ d = i2 := by simpa using hd
    rcases e' with q | q | q | q | q
    · rw [q]; exact ⟨_, hz, fun v q => nomatch q⟩
    · rw [q]; exact ⟨_, hTI, fun v q => nomatch q⟩
    · rw [q]; exact ⟨_, hTO, fun v q => nomatch q⟩
    · rw [q]; exact ⟨o1, e1, fun v q => by rw [d1] at q; cases q⟩
    · rw [q]; exact ⟨o2, e2, fun v q => by rw [d2] at q; cases q⟩
  keep := fun i h h' st k => by
    obtain ⟨hz, hTI, ⟨x, y, hTO⟩, h1, h2⟩ := st
    exact ⟨k z (by simp) _ hz, k TI (by simp) _ hTI, ⟨x, y, k TO (by simp) _ hTO⟩, h1.at fun o q => k i1 (by simp) o q, h2.at fun o q => k i2 (by simp) o q⟩
  item := by
    intro X hP hw hK hc i pins s σ H E I hf st hg
    subst hP hw hK
    obtain ⟨hz, hTI, ⟨x0, y0, hTO⟩, h1, h2⟩ := st
    obtain ⟨xs, ys, x, y, hqx, hqy, hx, hy⟩ := hg
    obtain ⟨its, rv, p, _⟩ := I.list hqx
    obtain ⟨its2, rv2, p2, _⟩ := I.tuple hqy
    obtain ⟨u1, hu1, ru1⟩ := rv.get hx
    obtain ⟨u2, hu2, ru2⟩ := rv2.get hy
    have hh : X.A.in1.handled = none := I.ok.hd hc
    have D1 := Draws.list (prog := X.prog) (w := X.w) (A := X.A.in1) hh i1 a h1a its.toArray
    have D2 := Draws.tuple (prog := X.prog) (w := X.w) (A := X.A.in1) hh i2 b h2b its2.toArray
    have hzl : z < s.heap.objs.size := Heap.lt_size hz
    have lt1 : i < its.toArray.size := by simpa using (List.getElem?_eq_some_iff.mp hu1).1
    have lt2 : i < its2.toArray.size := by simpa using (List.getElem?_eq_some_iff.mp hu2).1
    refine wpAny_pyNext_zipD2_item D D1 D2 hz hTI hTO ⟨h1, p.isList⟩ ⟨h2, p2⟩ lt1 lt2 fun x1 x2 h' tk q1 q2 z' TO' s1' s2' hT hsz hk => ?_
    have e1 : x1 = u1 := by have q : its[i]? = some x1 := by simpa using q1
                            rw [hu1] at q; exact (Option.some.inj q).symm
    have e2 : x2 = u2 := by have q : its2[i]? = some x2 := by simpa using q2
                            rw [hu2] at q; exact (Option.some.inj q).symm
    subst e1 e2
    refine ⟨_, rfl, wpAny_letOwnedTupleGo_zip (s := { s with heap := h', toks := tk }) z' fun h'' z'' sb => ?_⟩
    have hT2 : h''.get? s.heap.objs.size = some { cls := .type "tuple", data := .seq #[x1, x2] } := (sb.2 _ (Nat.ne_of_gt hzl)).trans hT
    have new : ObjOk X.prog X.w (upd H s.heap.objs.size (.tup [x, y])) h'' s.heap.objs.size (.tup [x, y]) :=
      ⟨by show 2 ≤ sizeLine; decide, [x1, x2], .cons ru1 (.cons ru2 .nil), ⟨_, hT2, rfl, _, rfl⟩⟩
    have I1 : Inv X pins σ (upd H s.heap.objs.size (.tup [x, y])) { s with heap := h'', toks := tk } :=
      I.turnedNew (t' := tk) (ch := [z, TI, TO, i1, i2]) (fun d o hb q => (sb.2 d (fun q' => hb (by simp [q']))).trans (hk d o (fun q' => hb (by simp [q'])) (fun q' => hb (by simp [q'])) (fun q' => hb (by simp [q'])) (fun q' => hb (by simp [q'])) q)) hf (Nat.le_refl _) new
    refine ⟨.ref s.heap.objs.size, _, I1, rfl, ⟨_, x, y, rfl, I.hok.fresh (Nat.le_refl _), rfl, fun l hl => by rw [I.list_inj hl hqx]; exact hx, fun l hl => by rw [I.tuple_inj hl hqy]; exact hy⟩, ⟨z'', ?_, ⟨x1, x2, ?_⟩, ?_, ?_⟩, fun d hdm => ?_⟩
    · exact (sb.2 _ D.TIz).trans (hk _ _ D.TIz D.TITO D.TIi1 D.TIi2 hTI)
    · exact (sb.2 _ D.TOz).trans TO'
    · exact s1'.1.at fun o q => (sb.2 _ D.zi1.symm).trans q
    · exact s2'.1.at fun o q => (sb.2 _ D.zi2.symm).trans q
    · have hlt : d < s.heap.objs.size := by
        have e' : d = z ∨ d = TI ∨ d = TO ∨ d = i1 ∨ d = i2 := by simpa using hdm
        rcases e' with q | q | q | q | q
        · rw [q]; exact hzl
        · rw [q]; exact Heap.lt_size hTI
        · rw [q]; exact Heap.lt_size hTO
        · rw [q]; obtain ⟨_, e1, _⟩ := h1; exact Heap.lt_size e1
        · rw [q]; obtain ⟨_, e2, _⟩ := h2; exact Heap.lt_size e2
      rw [upd_ne (Nat.ne_of_lt hlt)]
      exact (hf d hdm).1
  done := by
    intro X hP hw hK hc i pins s σ H E I hf st hg
    subst hP hw hK
    obtain ⟨hz, hTI, ⟨x0, y0, hTO⟩, h1, h2⟩ := st
    obtain ⟨xs, ys, hqx, hqy, l1, l2⟩ := hg
    obtain ⟨its, rv, p, _⟩ := I.list hqx
    obtain ⟨its2, rv2, p2, _⟩ := I.tuple hqy
    have m1 : i = its.toArray.size := by have := rv.length; simp; omega
    have m2 : i = its2.toArray.size := by have := rv2.length; simp; omega
    have hh : X.A.in1.handled = none := I.ok.hd hc
    have D1 := Draws.list (prog := X.prog) (w := X.w) (A := X.A.in1) hh i1 a h1a its.toArray
    have D2 := Draws.tuple (prog := X.prog) (w := X.w) (A := X.A.in1) hh i2 b h2b its2.toArray
    exact wpAny_pyNext_zipD2_end D D1 D2 hz hTI hTO ⟨h1, p.isList⟩ ⟨h2, p2⟩ (Nat.le_of_eq m1) (Nat.le_of_eq m2) (.inl m1) fun h' tk hk => ⟨rfl, I.turnedL (t' := tk) (ch := [z, TI, TO, i1, i2]) (fun d o hb q =>
      hk d o (fun q' => hb (by simp [q'])) (fun q' => hb (by simp [q'])) (fun q' => hb (by simp [q'])) (fun q' => hb (by simp [q'])) q) hf⟩
  self := fun A i s Q E st h => wpAny_pyIter_zip st.1 h
def iZipM (K : PySem.W.Frag) (ta : TA) : TI := fun σ H R => ta σ H fun vs H1 => ∃ a b xs ys, vs = [.ref a, .ref b] ∧ SqL K H1 a xs ∧ SqT K H1 b ys ∧ R (ItzM K a b) H1
theorem pi_zipM (K : PySem.W.Frag) {X : Cx} {e e2 : Expr} {ta : TA} {p pos tpos : Pos} {elts : List Expr} {kk : Nat} (hK : X.K = K) (hg : Gl X "zip") (hm : X.mg "zip" = none) (ha : PA X [e, e2] ta)
    (hs : starEach [e, e2] X.env = (false, eval e X.env) :: starEach [e2] X.env := by rfl) (hpl : (backTo pos (starEach [e2] X.env)).any (·.1) = false := by rfl) :
    PI X (.Tuple elts kk tpos) (.Call (.Name "zip" p) [e, e2] [] pos) (iZipM K ta) := by
  subst hK
  refine ⟨fun pins s σ H R I h => ?_⟩
  refine Call_ (ld_blt I hg hm PyProof.Rows.boot_zip (PyProof.Rows.callWith_type1 (thn (ha.run pos pins s σ H _ I h) fun us s1 ⟨vs, H1, I1, r1, q1⟩ => ?_) hs hpl))
  obtain ⟨a, b, xs, ys, ex, hqx, hqy, q⟩ := q1
  subst ex
  cases r1 with
  | cons r rr =>
    cases rr with
    | cons r' rr =>
      cases rr
      cases r
      cases r'
      obtain ⟨its, rv, p1, _⟩ := I1.list hqx
      obtain ⟨its2, rv2, p2, _⟩ := I1.tuple hqy
      have la : a < s1.heap.objs.size := p1.lt
      have lb : b < s1.heap.objs.size := p2.lt
      refine zip_begins2 (begins_list a its.toArray) (begins_tuple b its2.toArray) p1.isList p2 fun h' hz hTI hTO h1 h2 hsz hk => wpAny_pyIter_zip hz ?_
      have I2 : Inv X pins σ H1 { s1 with heap := h' } := I1.kept (t' := s1.toks) hk
      have sep : ZipSep2 (s1.heap.objs.size + 4) (s1.heap.objs.size + 2) (s1.heap.objs.size + 3) s1.heap.objs.size (s1.heap.objs.size + 1) [s1.heap.objs.size, a] [s1.heap.objs.size + 1, b] :=
        zip_sep2 (N := s1.heap.objs.size) (fp1 := [a]) (fp2 := [b]) (fun d hd => by rw [List.mem_singleton.mp hd]; exact la) (fun d hd => by rw [List.mem_singleton.mp hd]; exact lb)
      refine ⟨s1.heap.objs.size + 4, [s1.heap.objs.size + 4, s1.heap.objs.size + 2, s1.heap.objs.size + 3, s1.heap.objs.size, s1.heap.objs.size + 1], _, _, H1, rfl, I2,
        turn_zipM sep (Nat.ne_of_lt la) (Nat.ne_of_lt (Nat.lt_succ_of_lt lb)), ⟨hz, hTI, ⟨_, _, hTO⟩, ⟨_, h1, rfl, rfl⟩, ⟨_, h2, rfl, rfl⟩⟩, fun d hdm => ?_, q⟩
      have e' : d = s1.heap.objs.size + 4 ∨ d = s1.heap.objs.size + 2 ∨ d = s1.heap.objs.size + 3 ∨ d = s1.heap.objs.size ∨ d = s1.heap.objs.size + 1 := by simpa using hdm
      have hle : s1.heap.objs.size ≤ d := by
        rcases e' with z | z | z | z | z
        · rw [z]; exact Nat.le_add_right _ _
        · rw [z]; exact Nat.le_add_right _ _
        · rw [z]; exact Nat.le_add_right _ _
        · rw [z]; exact Nat.le_refl _
        · rw [z]; exact Nat.le_add_right _ _
      exact I1.fpOk hle (I1.hok.fresh hle)
def ItsF (K : PySem.W.Frag) (c : Int) (a : Addr) : It :=
  ⟨fun i H => ∃ (xs : List V) (x : V), SqL K H a xs ∧ xs[i]? = some x, fun i H v H' => ∃ T x, v = .ref T ∧ H T = none ∧ H' = upd H T (.tup [.int (c + (i : Nat)), x]) ∧ ∀ xs, SqL K H a xs → xs[i]? = some x, fun i H => ∃ xs : List V, SqL K H a xs ∧ xs.length = i⟩
theorem turn_enumF {P : Program} {w : World} {K : PySem.W.Frag} {elts : List Expr} {kk : Nat} {tpos : Pos} (c : Int) (a e it : Addr) (hai : a ≠ it) (hae : e ≠ a) :
    Turn P w K (.Tuple elts kk tpos) (ItsF K c a) [e, it] e (fun i h => (∃ old, IsEnum h e it (c + ((i : Nat) : Int)) old) ∧ h.IsListIter it a i ∧ e ≠ it) where
  mem := by simp
  obj := fun i h st b hb => by
    obtain ⟨⟨old, he⟩, ⟨o, ho, hc, hd⟩, _⟩ := st
    have e' : b = e ∨ b = it := by simpa using hb
    rcases e' with z | z
    · rw [z]; exact ⟨_, he, fun v q => nomatch q⟩
    · rw [z]; exact ⟨o, ho, fun v q => by rw [hd] at q; cases q⟩
  keep := fun i h h' st k => let ⟨⟨old, he⟩, hi, hne⟩ := st; ⟨⟨old, k e (by simp) _ he⟩, hi.at fun o q => k it (by simp) o q, hne⟩
  item := by
    intro X hP hw hK hc i pins s σ H E I hf st hg
    subst hP hw hK
    obtain ⟨⟨old, he⟩, hit, hne⟩ := st
    obtain ⟨xs, x, hq, hx⟩ := hg
    obtain ⟨its, rv, p, hz⟩ := I.list hq
    obtain ⟨u, hu, ru⟩ := rv.get hx
    have hel : e < s.heap.objs.size := Heap.lt_size he
    have hil : it < s.heap.objs.size := by obtain ⟨_, q, _⟩ := hit; exact Heap.lt_size q
    have hh : X.A.in1.handled = none := I.ok.hd hc
    have D1 := Draws.list (prog := X.prog) (w := X.w) (A := X.A.in1) hh it a hai its.toArray
    have lt1 : i < its.toArray.size := by simpa using (List.getElem?_eq_some_iff.mp hu).1
    have hef : e ∉ [it, a] := by simp [hne, hae]
    refine wpAny_pyNext_enum_itemC D1 he ⟨hit, p.isList⟩ lt1 hne hef fun x1 h' tk q1 ho st' hT hsz hk => ?_
    have e1 : x1 = u := by have q : its[i]? = some x1 := by simpa using q1
                           rw [hu] at q; exact (Option.some.inj q).symm
    subst e1
    refine ⟨_, rfl, wpAny_letOwnedTupleGo_enum (s := { s with heap := h', toks := tk + 1 }) ho fun h'' he' sb => ?_⟩
    have hT2 : h''.get? s.heap.objs.size = some { cls := .type "tuple", data := .seq #[.int (c + (i : Int)) tk, x1] } := (sb.2 _ (Nat.ne_of_gt hel)).trans hT
    have new : ObjOk X.prog X.w (upd H s.heap.objs.size (.tup [.int (c + (i : Nat)), x])) h'' s.heap.objs.size (.tup [.int (c + (i : Nat)), x]) :=
      ⟨by show 2 ≤ sizeLine; decide, [.int (c + (i : Int)) tk, x1], .cons ⟨_, rfl⟩ (.cons ru .nil), ⟨_, hT2, rfl, _, rfl⟩⟩
    have I1 : Inv X pins σ (upd H s.heap.objs.size (.tup [.int (c + (i : Nat)), x])) { s with heap := h'', toks := tk + 1 } :=
      I.turnedNew (ch := [e, it]) (fun b ob hb q => (sb.2 b (fun z => hb (by simp [z]))).trans (hk b ob (fun z => hb (by simp [z])) (fun z => hb (by simp [z])) q)) hf (Nat.le_refl _) new
    refine ⟨.ref s.heap.objs.size, _, I1, rfl, ⟨_, x, rfl, I.hok.fresh (Nat.le_refl _), rfl, fun ys hy => by rw [I.list_inj hy hq]; exact hx⟩, ⟨⟨x1, ?_⟩, st'.1.at fun o q => (sb.2 it (Ne.symm hne)).trans q, hne⟩, fun b hb => ?_⟩
    · have e1 : c + ((i + 1 : Nat) : Int) = c + (i : Int) + 1 := by omega
      rw [e1]; exact he'
    · have hb' : b < s.heap.objs.size := by
        have e' : b = e ∨ b = it := by simpa using hb
        rcases e' with z | z
        · rw [z]; exact hel
        · rw [z]; exact hil
      rw [upd_ne (Nat.ne_of_lt hb')]
      exact (hf b hb).1
  done := by
    intro X hP hw hK hc i pins s σ H E I hf st hg
    subst hP hw hK
    obtain ⟨⟨old, he⟩, hit, hne⟩ := st
    obtain ⟨xs, hq, hx⟩ := hg
    obtain ⟨its, rv, p, hz⟩ := I.list hq
    obtain ⟨f0, f1, f2, f3, f4, f5⟩ := hf it (by simp)
    have hh : X.A.in1.handled = none := I.ok.hd hc
    have D1 := Draws.list (prog := X.prog) (w := X.w) (A := X.A.in1) hh it a hai its.toArray
    have m1 : its.toArray.size = i := by have := rv.length; simp; omega
    refine wpAny_pyNext_enum_endD D1 he ⟨by rw [m1]; exact hit, p.isList⟩ fun h' eb => ⟨rfl, I.turned (t' := s.toks) (fun b o hb q => eb b o hb q) f0 f1 f3 f4 f5⟩
  self := fun A i s Q E st h => let ⟨⟨_, he⟩, _⟩ := st; wpAny_pyIter_enum he h

def iEnumF (K : PySem.W.Frag) (c : Int) (ta : TA) : TI := fun σ H R => ta σ H fun vs H1 => ∃ a xs, vs = [.ref a] ∧ SqL K H1 a xs ∧ R (ItsF K c a) H1
theorem callWith_tkw {M : Model} {A : Around} {E : Value → Shared → Prop} {s : Shared} {env : Env} {po : Pos} {T : String} {e : Expr} {kws : List Keyword} {Q : Value → Shared → Prop}
    (h : wpAny M A (spliced (backTo po (starEach [e] env))) (fun vs t => wpAny M A (evalAll ((backToKw po (keywordEach kws env)).map (·.2))) (fun ks t2 => wpAny M A (call (.type T) vs (((backToKw po (keywordEach kws env)).filterMap (·.1)).zip ks)) Q E t2) E t) E s)
    (one : backTo po (starEach [e] env) = (false, eval e env) :: backTo po (starEach [] env)) (flat : (backTo po (starEach [e] env)).any (·.1) = false)
    (named : (backToKw po (keywordEach kws env)).all (·.1.isSome) = true) (none_ : (backToKw po (keywordEach kws env)).any (·.1.isNone) = false) :
    wpAny M A (callWith po (.type T) [] (backTo po (starEach [e] env)) (backToKw po (keywordEach kws env))) Q E s := by
  have main : wpAny M A (evalArgs (.type T) true (backTo po (starEach [e] env)) (backToKw po (keywordEach kws env))) (fun a t => wpAny M A (call (.type T) ([] ++ a.pos) a.kw) Q E t) E s := by
    rw [one] at h ⊢
    exact evalArgs_kwB named h
  unfold callWith
  refine wpAny_bind (wpAny_holding (wpAny_mono main (fun a t ht => wpAny_bind (wpAny_standAt ?_)) fun _ _ x => x))
  simp only [flat, none_, Bool.or_false]
  exact wpAny_bind (wpAny_pure (wpAny_bind (wpAny_mono ht (fun r t2 hr => wpAny_bind (wpAny_holding (wpAny_point (wpAny_pure hr)))) fun _ _ x => x)))
theorem pi_enumF (K : PySem.W.Frag) {X : Cx} {e : Expr} {ta : TA} {c : Int} {j : Nat} {p pos tpos kp cp : Pos} {elts : List Expr} {kk : Nat} (hK : X.K = K) (hg : Gl X "enumerate") (hm : X.mg "enumerate" = none) (ha : PA X [e] ta) (c0 : -1000 ≤ c) (c1 : c ≤ 1000)
    (hs : backTo pos (starEach [e] X.env) = (false, eval e X.env) :: backTo pos (starEach [] X.env) := by rfl) (hf : (backTo pos (starEach [e] X.env)).any (·.1) = false := by rfl)
    (he : eval (.Call (.Name "enumerate" p) [e] [⟨some "start", .Constant (.int c) j cp, kp⟩] pos) X.env = (do callWith pos (← eval (.Name "enumerate" p) X.env) [] (backTo pos (starEach [e] X.env)) (backToKw pos (keywordEach [⟨some "start", .Constant (.int c) j cp, kp⟩] X.env))) := by rfl) :
    PI X (.Tuple elts kk tpos) (.Call (.Name "enumerate" p) [e] [⟨some "start", .Constant (.int c) j cp, kp⟩] pos) (iEnumF K c ta) := by
  subst hK
  refine ⟨fun pins s σ H R I h => ?_⟩
  rw [he]
  refine wpAny_bind (ld_blt I hg hm boot_enumerate (callWith_tkw ?_ hs hf rfl rfl))
  refine thn (ha.run pos pins s σ H _ I h) fun us s1 ⟨vs, H1, I1, r1, q1⟩ => ?_
  obtain ⟨a, xs, ex, hq, q⟩ := q1
  subst ex
  cases r1 with
  | cons r rr =>
    cases rr
    cases r
    refine kws_cons ?_
    refine wpAny_Constant_int ?_
    refine kws_nil ?_
    have I1 := I1.tok (s1.toks + 1)
    generalize ht1 : ({ s1 with toks := s1.toks + 1 } : Shared) = t1 at I1 ⊢
    obtain ⟨its, rv, p', hz⟩ := I1.list hq
    have la : a < t1.heap.objs.size := p'.lt
    show wpAny _ _ (call (.type "enumerate") [.ref a] [(Str.ofString "start", .int c s1.toks)]) _ _ t1
    refine enum_begins_start (begins_list a its.toArray) p'.isList (by omega) (by omega) fun h' he hit hsz hk => wpAny_pyIter_enum he ?_
    have I2 : Inv X pins σ H1 { t1 with heap := h' } := I1.kept (t' := t1.toks) hk
    have he0 : IsEnum h' (t1.heap.objs.size + 1) t1.heap.objs.size (c + ((0 : Nat) : Int)) .none := by
      have z : c + ((0 : Nat) : Int) = c := by omega
      rw [z]; exact he
    refine ⟨t1.heap.objs.size + 1, [t1.heap.objs.size + 1, t1.heap.objs.size], _, _, H1, rfl, I2, turn_enumF c a (t1.heap.objs.size + 1) t1.heap.objs.size (Nat.ne_of_lt la) (Nat.ne_of_gt (Nat.lt_succ_of_lt la)), ⟨⟨.none, he0⟩, ⟨_, hit, rfl, rfl⟩, Nat.succ_ne_self _⟩, fun b hb => ?_, q⟩
    have e' : b = t1.heap.objs.size + 1 ∨ b = t1.heap.objs.size := by simpa using hb
    have hle : t1.heap.objs.size ≤ b := by
      rcases e' with z | z
      · rw [z]; exact Nat.le_add_right _ _
      · rw [z]; exact Nat.le_refl _
    exact I1.fpOk hle (I1.hok.fresh hle)
end Sw
namespace Sw
open PySem PySem.Spec PyProof.Rows L2 Evl
/-! ### except clauses, some with a name -/
abbrev Cls3 := List (Value × Option Nat × (Addr → Value → Option Addr → TS))
def dropN (i : Nat) (D : Ends) : Ends := { nx := fun τ G => D.nx (τ.set i none) G, rt := D.rt, bk := fun τ G => D.bk (τ.set i none) G, ct := fun τ G => D.ct (τ.set i none) G }
def inSuite (o : Option Nat) (u : Addr → Value → Option Addr → TS) (a : Addr) (cls : Value) (d : Option Addr) (D : Ends) (σ : L2.St) (H : Hp) : Prop := match o with
  | none => u a cls d D σ H
  | some i => u a cls d (dropN i D) (σ.set i (some (.ref a))) H
def wN (K : PySem.W.Frag) (D : Ends) : Cls3 → WX
  | [] => fun _ _ _ _ => False
  | (c, o, u) :: r => fun cls d σ H => ∃ b, PySem.W.exmOne K cls c = some b ∧ (b = true → ∀ a, H a = none → inSuite o u a cls d D σ H) ∧ (b = false → wN K D r cls d σ H)
inductive ClN (X : Cx) : List ExceptHandler → Cls3 → Prop
  | nil : ClN X [] []
  | bare {x : Str} {c : Value} {u : Addr → Value → Option Addr → TS} {b : Stmt} {s : List Stmt} {np q : Pos} {hds : List ExceptHandler} {l : Cls3} (n : Names X x c)
      (k : ∀ (a : Addr) (oe : Obj) (cls : Value) (d : Option Addr) (pn : List (Addr × Obj)), Zc cls d oe → (∃ vs, oe.data = .fields vs) → PSs (X.suite a ((a, oe) :: pn)) (b :: s) (u a cls d)) (r : ClN X hds l) :
      ClN X (.ExceptHandler (some (.Name x np)) none (b :: s) q :: hds) ((c, none, u) :: l)
  | named {x nm : Str} {i : Nat} {c : Value} {u : Addr → Value → Option Addr → TS} {b : Stmt} {s : List Stmt} {np q : Pos} {hds : List ExceptHandler} {l : Cls3} (n : Names X x c) (hi : X.N[i]? = some nm) (hl : X.env.kindOf nm = some .local)
      (k : ∀ (a : Addr) (oe : Obj) (cls : Value) (d : Option Addr) (pn : List (Addr × Obj)), Zc cls d oe → (∃ vs, oe.data = .fields vs) → PSs (X.suite a ((a, oe) :: pn)) (b :: s) (u a cls d)) (r : ClN X hds l) :
      ClN X (.ExceptHandler (some (.Name x np)) (some nm) (b :: s) q :: hds) ((c, some i, u) :: l)
section
variable {X : Cx} {body : List Stmt} {h0 : ExceptHandler} {hds : List ExceptHandler} {l : Cls3} {po : Pos} {tb : WX → TS}
theorem ps_tryN (hs : X.stack = X.env :: X.outer) (hf : X.env.frame = some X.env.locals) (nd : X.N.Nodup)
    (pb : ∀ (W : WX) (pn : List (Addr × Obj)) (xe : Value → Shared → Prop), Takes (X.tr pn xe) W → PassesOwn (model X.prog X.w) X.A X.env xe → PSs (X.tr pn xe) body (tb W))
    (hc : ClN X (h0 :: hds) l) : PS X (.Try body (h0 :: hds) [] [] po) (fun D σ H => tb (wN X.K D l) D σ H) := by
  refine ⟨fun pn t σ H D J rd => ?_⟩
  have ok := J.ok
  have fr : X.A.frames = some (X.env :: X.outer) := by rw [ok.frames, hs]
  refine wpAny_Try_except ?_
  refine wpAny_mono ((pb (wN X.K D l) (X.pn ++ pn) (fun e t1 => wpAny (model X.prog X.w) X.A (noteFrame e X.env) (fun _ t2 => wpAny (model X.prog X.w) X.A (setFlight e none) (fun _ t3 =>
    wpAny (model X.prog X.w) X.A (handleBy e X.env (h0 :: hds)) (SP X pn D) X.xe t3) X.xe t2) X.xe t1) (fun u t' got => ?_) PassesOwn.looking).run [] t σ H D (J.toTry _) rd) (fun f t1 out => ?_) (fun e t1 he => he)
  · obtain ⟨a, B, sI, pn', σ', H', cls, d, rfl, J', nb, up, sky, na, os, ag, w⟩ := got
    have J2 : Inv X pn σ' H' sI := J'.ofTry ok
    have sky2 : Sky B (X.env :: X.outer) a (Zc cls d) X.env.locals t'.heap := by rw [← hs]; exact sky
    show wpAny (model X.prog X.w) X.A (noteFrame (.ref a) X.env) _ _ _
    refine Sky.land Zc.steady fr hf sky2 fun h3 fl3 up3 => ?_
    have J3 : Inv X pn σ' H' { t' with heap := h3 } := J2.landed nb fl3.1 (up.trans up3) os ag
    obtain ⟨oe, vs, ge, ze, de⟩ := fl3.there
    have off : a ∉ frs (X.env :: X.outer) := fun hm => by
      obtain ⟨_, o2, g2, n⟩ := (fl3.2.2.1).mem hm
      rw [ge] at g2; cases g2
      exact n _ de
    have nL : a ≠ X.env.locals := fun z => off (List.mem_filterMap.mpr ⟨X.env, List.mem_cons_self, by rw [hf, z]⟩)
    have nF : a ∉ X.fs := fun hm => by
      obtain ⟨v, hv, q⟩ := List.mem_filterMap.mp hm
      exact off (List.mem_filterMap.mpr ⟨v, List.mem_cons_of_mem _ hv, q⟩)
    have S3 := J3.suite ge de na nL nF
    have looks : PySem.W.Looks (model X.prog X.w) h3 (typeOf (.ref a)) cls := fun A Q E t k q => wpAny_typeOf_ref (k _ _ ge) (by rw [ze.1]; exact q)
    have called : ∀ {x : Str} {c : Value} {np : Pos}, Names X x c → ∀ {Q : Value → Shared → Prop} {E : Value → Shared → Prop}, Q c { t' with heap := h3 } → wpAny (model X.prog X.w) (X.A.mark (some (.ref a))) (eval (.Name x np) X.env) Q E { t' with heap := h3 } := fun {x c np} hc {Q E} q => by
      obtain ⟨g, db, m | ⟨m, v, nn⟩⟩ := hc
      · exact ld_glob (X := X.suite a ((a, oe) :: (X.pn ++ pn))) S3 g m q db
      · exact ld_blt (X := X.suite a ((a, oe) :: (X.pn ++ pn))) S3 g m v q nn db
    have go : ∀ {hds' : List ExceptHandler} {l' : Cls3}, ClN X hds' l' → wN X.K D l' cls d σ' H' → wpAny (model X.prog X.w) X.A (handleBy (.ref a) X.env hds') (SP X pn D) X.xe { t' with heap := h3 } := by
      intro hds' l' hk
      induction hk with
      | nil => intro w; exact w.elim
      | bare n k r ih =>
        rintro ⟨b, m1, yes, no⟩
        refine wpAny_handleBy_cons (codeAny_handlers_test ?_) (by intro q; cases q)
        have M1 := PySem.W.exm_one (M := model X.prog X.w) J3.kIn looks m1
        refine called n (M1.here ?_)
        cases b with
        | false => exact ih (no rfl)
        | true =>
          refine codeAny_handlers_suite ?_
          refine HandSPX.lands_againZ fl3 fun h4 fl4 up4 => ?_
          have J4 : Inv X pn σ' H' { t' with heap := h4 } := J2.landed nb fl4.1 ((up.trans up3).trans up4) os ag
          obtain ⟨oe4, vs4, ge4, ze4, de4⟩ := fl4.there
          have S4 := J4.suite ge4 de4 na nL nF
          refine wpAny_mono ((k a oe4 cls d (X.pn ++ pn) ze4 ⟨_, de4⟩).run [] _ _ H' _ S4 (yes rfl a na)) (fun f t6 out => ?_) (fun _ _ z => False.elim z)
          cases f with
          | next => obtain ⟨_, _, S6, q6⟩ := out; exact ⟨_, _, S6.unsuite ok, q6⟩
          | brk => obtain ⟨_, _, S6, q6⟩ := out; exact ⟨_, _, S6.unsuite ok, q6⟩
          | cont => obtain ⟨_, _, S6, q6⟩ := out; exact ⟨_, _, S6.unsuite ok, q6⟩
          | ret u => obtain ⟨_, _, _, S6, r6, q6⟩ := out; exact ⟨_, _, _, S6.unsuite ok, r6, q6⟩
      | @named x nm i c u b1 sb np q hds2 l2 n hi hl k r ih =>
        rintro ⟨b, m1, yes, no⟩
        have lo : Loc X.env.scope nm := .inl hl
        refine wpAny_handleBy_cons (codeAny_handlers_test ?_) (by intro q; cases q)
        have M1 := PySem.W.exm_one (M := model X.prog X.w) J3.kIn looks m1
        refine called n (M1.here ?_)
        cases b with
        | false => exact ih (no rfl)
        | true =>
          refine codeAny_handlers_suite_as ?_
          refine HandSPX.lands_againZ fl3 fun h4 fl4 up4 => ?_
          have J4 : Inv X pn σ' H' { t' with heap := h4 } := J2.landed nb fl4.1 ((up.trans up3).trans up4) os ag
          obtain ⟨oe4, vs4, ge4, ze4, de4⟩ := fl4.there
          have S4 := J4.suite ge4 de4 na nL nF
          refine store_ok (X := X.suite a ((a, oe4) :: (X.pn ++ pn))) (v := .ref a) S4 nd hi lo rfl (fun t5 S5 => ?_) (.inr hl)
          refine wpAny_mono ((k a oe4 cls d (X.pn ++ pn) ze4 ⟨_, de4⟩).run [] t5 _ H' _ S5 (yes rfl a na)) (fun f t6 out => ?_) (fun _ _ z => False.elim z)
          have close : ∀ {σ6 : L2.St} {H6 : Hp} {Q : Shared → Prop}, Inv (X.suite a ((a, oe4) :: (X.pn ++ pn))) [] σ6 H6 t6 → (∀ t7, Inv X pn (σ6.set i none) H6 t7 → Q t7) →
              wpAny (model X.prog X.w) X.A (do bindName X.env nm .none; unbindBehindTheSuite X.env nm q) (fun _ t7 => Q t7) X.xe t6 := fun {σ6 H6 Q} S6 hq => gone_ok (S6.unsuite ok) nd hi hl hq
          cases f with
          | next => obtain ⟨_, _, S6, q6⟩ := out; exact close S6 fun t7 J7 => ⟨_, _, J7, q6⟩
          | brk => obtain ⟨_, _, S6, q6⟩ := out; exact close S6 fun t7 J7 => ⟨_, _, J7, q6⟩
          | cont => obtain ⟨_, _, S6, q6⟩ := out; exact close S6 fun t7 J7 => ⟨_, _, J7, q6⟩
          | ret u => obtain ⟨_, _, _, S6, r6, q6⟩ := out; exact close S6 fun t7 J7 => ⟨_, _, _, J7, r6, q6⟩
    exact go hc w
  · cases f with
    | next => obtain ⟨_, _, J', q⟩ := out; exact wpAny_execs_nil ⟨_, _, J'.ofTry ok, q⟩
    | brk => obtain ⟨_, _, J', q⟩ := out; exact ⟨_, _, J'.ofTry ok, q⟩
    | cont => obtain ⟨_, _, J', q⟩ := out; exact ⟨_, _, J'.ofTry ok, q⟩
    | ret u => obtain ⟨_, _, _, J', r, q⟩ := out; exact ⟨_, _, _, J'.ofTry ok, r, q⟩
end
end Sw
namespace GnX
open PySem PySem.Spec PyProof.Rows L2 GenW
open Sem (wp)
/-! ### what runs beside sleeping generators leaves them as they are -/
def stubK : Resume → Sem PySem.Fin := fun _ => .unsupported "asleep"
def stub : GenState → GenState
  | .suspended _ l c p fs cl => .suspended stubK l c p fs cl
  | x => x
theorem stub_bare (x : GenState) : (stub x).bare = x.bare := by cases x <;> rfl
/-- frames without a generator's own -/
def NG (fs : List Frame) : Prop := splitAtGen fs = none
theorem ng_cons {F : Frame} {fs : List Frame} (h : NG (F :: fs)) : NG fs ∧ ∀ g k l c p, F ≠ .gen g k l c p := by
  unfold NG at *
  cases F with
  | gen g k l c p => simp only [splitAtGen] at h; cases h
  | ret k h2 g l c p kp =>
    simp only [splitAtGen, Option.map_eq_none_iff] at h
    exact ⟨h, fun _ _ _ _ _ z => by cases z⟩
theorem ng_app : ∀ {a b : List Frame}, NG a → NG b → NG (a ++ b)
  | [], _, _, hb => hb
  | F :: a, b, ha, hb => by
    obtain ⟨h1, h2⟩ := ng_cons ha
    have ih := ng_app h1 hb
    cases F with
    | gen g k l c p => exact absurd rfl (h2 g k l c p)
    | ret k h3 g l c p kp =>
      unfold NG at *
      show splitAtGen (.ret k h3 g l c p kp :: (a ++ b)) = none
      simp only [splitAtGen, Option.map_eq_none_iff]
      exact ih
theorem ng_nil : NG [] := rfl
theorem ng_ret {k h g l c p kp} : NG [.ret k h g l c p kp] := rfl
def unG (ρ : Nat → Option GenState) (G : Array GenState) : Array GenState := G.mapIdx fun i x => (ρ i).getD x
def un (ρ : Nat → Option GenState) (s : Shared) : Shared := { s with gens := unG ρ s.gens }
theorem unG_get {ρ : Nat → Option GenState} {G : Array GenState} {i : Nat} : (unG ρ G)[i]? = (G[i]?).map fun x => (ρ i).getD x := by
  unfold unG
  simp
theorem unG_size {ρ : Nat → Option GenState} {G : Array GenState} : (unG ρ G).size = G.size := by unfold unG; simp
theorem unG_none {ρ : Nat → Option GenState} {G : Array GenState} {i : Nat} (h : ρ i = none) : (unG ρ G)[i]? = G[i]? := by
  rw [unG_get, h]
  cases G[i]? <;> rfl
theorem un_set {ρ : Nat → Option GenState} {s : Shared} {g : Nat} {x : GenState} (h : ρ g = none) : un ρ (s.setGen g x) = (un ρ s).setGen g x := by
  have e : unG ρ (s.gens.setIfInBounds g x) = (unG ρ s.gens).setIfInBounds g x := by
    refine Array.ext_getElem? fun i => ?_
    rw [unG_get]
    by_cases hi : g = i
    · subst hi
      rw [Array.getElem?_setIfInBounds_self, Array.getElem?_setIfInBounds_self, unG_size]
      by_cases hg : g < s.gens.size
      · rw [if_pos hg, h]; rfl
      · rw [if_neg hg]; rfl
    · rw [Array.getElem?_setIfInBounds_ne hi, Array.getElem?_setIfInBounds_ne hi, unG_get]
  show ({ s.setGen g x with gens := unG ρ (s.gens.setIfInBounds g x) } : Shared) = _
  rw [e]
  rfl
theorem unG_push {ρ : Nat → Option GenState} {G : Array GenState} {x : GenState} (h : ρ G.size = none) : unG ρ (G.push x) = (unG ρ G).push x := by
  refine Array.ext_getElem? fun i => ?_
  rw [unG_get, Array.getElem?_push, Array.getElem?_push, unG_size]
  by_cases hi : i = G.size
  · subst hi
    rw [if_pos rfl, if_pos rfl, h]; rfl
  · rw [if_neg hi, if_neg hi, unG_get]
/-- those at ρ sleep on; all others' frames are plain -/
structure StO (ρ : Nat → Option GenState) (G : Array GenState) : Prop where
  st : ∀ i y, ρ i = some y → ∃ k l c p fs cl, y = .suspended k l c p fs cl ∧ G[i]? = some (.suspended stubK l c p fs cl)
  good : ∀ i k l c p fs cl, ρ i = none → G[i]? = some (.suspended k l c p fs cl) → NG fs
theorem StO.size {ρ : Nat → Option GenState} {G : Array GenState} (h : StO ρ G) : ρ G.size = none := by
  cases e : ρ G.size with
  | none => rfl
  | some y =>
    obtain ⟨_, _, _, _, _, _, _, q⟩ := h.st _ y e
    rw [Array.getElem?_eq_none (Nat.le_refl _)] at q
    cases q
theorem StO.push {ρ : Nat → Option GenState} {G : Array GenState} {c : Code} (h : StO ρ G) : StO ρ (G.push (.fresh c)) := by
  refine ⟨fun i y e => ?_, fun i k l c' p fs cl e q => ?_⟩
  · obtain ⟨k, l, c', p, fs, cl, ey, q⟩ := h.st i y e
    refine ⟨k, l, c', p, fs, cl, ey, ?_⟩
    have hi : i < G.size := (Array.getElem?_eq_some_iff.mp q).1
    rw [Array.getElem?_push, if_neg (Nat.ne_of_lt hi)]
    exact q
  · rw [Array.getElem?_push] at q
    by_cases hi : i = G.size
    · rw [if_pos hi] at q; cases q
    · rw [if_neg hi] at q; exact h.good i k l c' p fs cl e q
theorem StO.set {ρ : Nat → Option GenState} {s : Shared} {g : Nat} {x : GenState} (h : StO ρ s.gens) (hg : ρ g = none) (hx : ∀ k l c p fs cl, x = .suspended k l c p fs cl → NG fs) : StO ρ (s.setGen g x).gens := by
  have get : ∀ i, (s.setGen g x).gens[i]? = if g = i then (if g < s.gens.size then some x else none) else s.gens[i]? := fun i => by
    show (s.gens.setIfInBounds g x)[i]? = _
    by_cases hi : g = i
    · subst hi
      rw [if_pos rfl, Array.getElem?_setIfInBounds_self]
    · rw [if_neg hi, Array.getElem?_setIfInBounds_ne hi]
  refine ⟨fun i y e => ?_, fun i k l c' p fs cl e q => ?_⟩
  · obtain ⟨k, l, c', p, fs, cl, ey, q⟩ := h.st i y e
    refine ⟨k, l, c', p, fs, cl, ey, ?_⟩
    have hi : g ≠ i := fun z => by rw [← z, hg] at e; cases e
    rw [get, if_neg hi]
    exact q
  · rw [get] at q
    by_cases hi : g = i
    · rw [if_pos hi] at q
      by_cases hs : g < s.gens.size
      · rw [if_pos hs] at q
        exact hx k l c' p fs cl (Option.some.inj q)
      · rw [if_neg hs] at q; cases q
    · rw [if_neg hi] at q; exact h.good i k l c' p fs cl e q
theorem no_unsupported {M : Model} {Γ : PySem.Ctx} {p : Pos} {w : String} {fs : List Frame} {s s' : Shared} {e : End} (h : Runs M Γ p (.unsupported w) fs s e s') : False := by
  generalize ht : (Sem.unsupported w : Sem PySem.Fin) = t at h
  induction h with
  | segRet _ _ ih1 _ => exact ih1 ht
  | segGen _ _ ih1 _ => exact ih1 ht
  | segSuspOut _ _ ih => exact ih ht
  | segSuspGen _ _ _ _ ih1 _ => exact ih1 ht
  | _ => cases ht
theorem StO.awake {ρ : Nat → Option GenState} {s : Shared} {g : Nat} {x : GenState} (h : StO ρ s.gens) (hg : s.gens[g]? = some x) (hx : ∀ k l c p fs cl, x ≠ .suspended k l c p fs cl) : ρ g = none ∧ (un ρ s).gens[g]? = some x := by
  have e0 : ρ g = none := by
    cases e0 : ρ g with
    | none => rfl
    | some y =>
      obtain ⟨_, _, _, _, _, _, _, q⟩ := h.st g y e0
      rw [hg] at q
      exact absurd (Option.some.inj q) (hx _ _ _ _ _ _)
  exact ⟨e0, by show (unG ρ s.gens)[g]? = _; rw [unG_none e0]; exact hg⟩
theorem StO.seen {ρ : Nat → Option GenState} {s : Shared} {g : Nat} {x : GenState} (h : StO ρ s.gens) (hg : s.gens[g]? = some x) : ∃ y, (un ρ s).gens[g]? = some y ∧ y.seen = x.seen := by
  cases e0 : ρ g with
  | none => exact ⟨x, by show (unG ρ s.gens)[g]? = _; rw [unG_none e0]; exact hg, rfl⟩
  | some y =>
    obtain ⟨k1, l1, c1, p1, fs1, cl1, ey, q⟩ := h.st g y e0
    rw [hg] at q
    cases q
    refine ⟨y, by show (unG ρ s.gens)[g]? = _; rw [unG_get, hg, e0]; rfl, ?_⟩
    rw [ey]
    rfl
/-- the end's frames are plain -/
def NGE : End → Prop
  | .susp _ _ _ _ _ _ fs => NG fs
  | _ => True
theorem nge_state {e : End} (h : NGE e) : ∀ k l c p fs cl, e.genState = .suspended k l c p fs cl → NG fs := by
  intro k l c p fs cl q
  cases e with
  | ret r => cases q
  | susp v g l0 k0 c0 p0 fs0 => cases q; exact h
theorem runs_un {M : Model} {ρ : Nat → Option GenState} {Γ : PySem.Ctx} {p : Pos} {t : Sem PySem.Fin} {fs : List Frame} {s s' : Shared} {e : End} (h : Runs M Γ p t fs s e s') :
    NG fs → StO ρ s.gens → Runs M Γ p t fs (un ρ s) e (un ρ s') ∧ StO ρ s'.gens ∧ NGE e := by
  induction h with
  | done => exact fun _ st => ⟨.done, st, trivial⟩
  | raise => exact fun _ st => ⟨.raise, st, trivial⟩
  | again hq _ ih => exact fun n st => let ⟨a, b, c⟩ := ih n st; ⟨.again hq a, b, c⟩
  | rule _ ih => exact fun n st => let ⟨a, b, c⟩ := ih n st; ⟨.rule a, b, c⟩
  | «at» _ ih => exact fun n st => let ⟨a, b, c⟩ := ih n st; ⟨.at a, b, c⟩
  | load ho _ ih => exact fun n st => let ⟨a, b, c⟩ := ih n st; ⟨.load ho a, b, c⟩
  | update ho _ ih => exact fun n st => let ⟨a, b, c⟩ := ih n st; ⟨.update ho a, b, c⟩
  | loadIfAlive _ ih => exact fun n st => let ⟨a, b, c⟩ := ih n st; ⟨.loadIfAlive a, b, c⟩
  | point _ ih => exact fun n st => let ⟨a, b, c⟩ := ih n st; ⟨.point a, b, c⟩
  | alloc _ ih => exact fun n st => let ⟨a, b, c⟩ := ih n st; ⟨.alloc a, b, c⟩
  | fresh _ ih => exact fun n st => let ⟨a, b, c⟩ := ih n st; ⟨.fresh a, b, c⟩
  | ask _ ih => exact fun n st => let ⟨a, b, c⟩ := ih n st; ⟨.ask a, b, c⟩
  | choose hn _ ih => exact fun n st => let ⟨a, b, c⟩ := ih n st; ⟨.choose hn a, b, c⟩
  | os _ ih => exact fun n st => let ⟨a, b, c⟩ := ih n st; ⟨.os a, b, c⟩
  | handled _ ih => exact fun n st => let ⟨a, b, c⟩ := ih n st; ⟨.handled a, b, c⟩
  | stack _ ih => exact fun n st => let ⟨a, b, c⟩ := ih n st; ⟨.stack a, b, c⟩
  | thread _ ih => exact fun n st => let ⟨a, b, c⟩ := ih n st; ⟨.thread a, b, c⟩
  | genState hg _ ih =>
    intro n st
    obtain ⟨a, b, c⟩ := ih n st
    obtain ⟨y, hy, es⟩ := st.seen hg
    exact ⟨.genState hy (by rw [es]; exact a), b, c⟩
  | newGen _ ih =>
    intro n st
    obtain ⟨a, b, c⟩ := ih n st.push
    refine ⟨.newGen ?_, b, c⟩
    show Runs _ _ _ _ _ { un ρ _ with gens := (unG ρ _).push _ } _ _
    rw [← unG_push st.size]
    rw [show (un ρ _).gens.size = _ from unG_size]
    exact a
  | call _ _ ih1 ih2 =>
    intro n st
    obtain ⟨a1, b1, _⟩ := ih1 ng_nil st
    obtain ⟨a2, b2, c2⟩ := ih2 n b1
    exact ⟨.call a1 a2, b2, c2⟩
  | callSusp _ ih =>
    intro n st
    obtain ⟨a, b, c⟩ := ih ng_nil st
    exact ⟨.callSusp a, b, ng_app c ng_ret⟩
  | yield => exact fun _ st => ⟨.yield, st, ng_nil⟩
  | resumeFresh hg _ hq _ ih1 ih2 =>
    intro n st
    obtain ⟨e0, e1⟩ := st.awake hg fun _ _ _ _ _ _ z => by cases z
    obtain ⟨a1, b1, c1⟩ := ih1 ng_nil (st.set e0 fun _ _ _ _ _ _ z => by cases z)
    obtain ⟨a2, b2, c2⟩ := ih2 n (b1.set e0 (nge_state c1))
    rw [un_set e0] at a1 a2
    exact ⟨.resumeFresh e1 a1 hq a2, b2, c2⟩
  | @resumeSuspended Γ p g r l k s k₀ l₀ c₀ p₀ fs cl e₁ s₁ e s' hg h1 hq _ ih1 ih2 =>
    intro n st
    cases e0 : ρ g with
    | some y =>
      obtain ⟨k1, l1, c1, p1, fs1, cl1, ey, q⟩ := st.st g y e0
      rw [hg] at q
      cases q
      exact (no_unsupported h1).elim
    | none =>
      obtain ⟨a1, b1, c1⟩ := ih1 (st.good g _ _ _ _ _ _ e0 hg) (st.set e0 fun _ _ _ _ _ _ z => by cases z)
      obtain ⟨a2, b2, c2⟩ := ih2 n (b1.set e0 (nge_state c1))
      rw [un_set e0] at a1 a2
      exact ⟨.resumeSuspended (by show (unG ρ s.gens)[g]? = _; rw [unG_none e0]; exact hg) a1 hq a2, b2, c2⟩
  | resumeJustStarted hg hv _ ih =>
    intro n st
    obtain ⟨a, b, c2⟩ := ih n st
    obtain ⟨e0, e1⟩ := st.awake hg fun _ _ _ _ _ _ z => by cases z
    exact ⟨.resumeJustStarted e1 hv a, b, c2⟩
  | resumeThrowFresh hg _ ih =>
    intro n st
    obtain ⟨e0, e1⟩ := st.awake hg fun _ _ _ _ _ _ z => by cases z
    obtain ⟨a, b, c2⟩ := ih n (st.set e0 fun _ _ _ _ _ _ z => by cases z)
    rw [un_set e0] at a
    exact ⟨.resumeThrowFresh e1 a, b, c2⟩
  | resumeRunning hg _ ih =>
    intro n st
    obtain ⟨a, b, c2⟩ := ih n st
    obtain ⟨e0, e1⟩ := st.awake hg fun _ _ _ _ _ _ z => by cases z
    exact ⟨.resumeRunning e1 a, b, c2⟩
  | resumeFinished hg _ ih =>
    intro n st
    obtain ⟨a, b, c2⟩ := ih n st
    obtain ⟨e0, e1⟩ := st.awake hg fun _ _ _ _ _ _ z => by cases z
    exact ⟨.resumeFinished e1 a, b, c2⟩
  | segRet _ _ ih1 ih2 =>
    intro n st
    obtain ⟨a1, b1, _⟩ := ih1 ng_nil st
    obtain ⟨a2, b2, c2⟩ := ih2 (ng_cons n).1 b1
    exact ⟨.segRet a1 a2, b2, c2⟩
  | segGen _ _ ih1 ih2 => exact fun n _ => absurd rfl ((ng_cons n).2 _ _ _ _ _)
  | segSuspOut hs _ ih =>
    intro n st
    obtain ⟨a, b, c⟩ := ih ng_nil st
    exact ⟨.segSuspOut hs a, b, ng_app c n⟩
  | segSuspGen hs _ _ _ ih1 ih2 =>
    intro n _
    rw [show splitAtGen _ = none from n] at hs
    cases hs
theorem wp_un {α : Type} (M : Model) (ρ : Nat → Option GenState) (t : Sem α) : ∀ (Γ : PySem.Ctx) (Q : α → Pos → Shared → Prop) (E : Value → Pos → Shared → Prop) (p : Pos) (s : Shared), StO ρ s.gens → wp M Γ t Q E p s →
    wp M Γ t (fun a p' s' => ∃ s2, s' = un ρ s2 ∧ StO ρ s2.gens ∧ Q a p' s2) (fun e p' s' => ∃ s2, s' = un ρ s2 ∧ StO ρ s2.gens ∧ E e p' s2) p (un ρ s) := by
  induction t with
  | pure a => intro Γ Q E p s st h; exact ⟨s, rfl, st, h⟩
  | raise e => intro Γ Q E p s st h; exact ⟨s, rfl, st, h⟩
  | unsupported _ => intro Γ Q E p s _ h; exact h
  | finish _ => intro Γ Q E p s _ h; exact h
  | rule _ k ih => intro Γ Q E p s st h; exact ih () Γ Q E p s st h
  | «at» p' k ih => intro Γ Q E p s st h; exact ih () Γ Q E p' s st h
  | load a _ k ih => intro Γ Q E p s st h; obtain ⟨o, ho, h⟩ := h; exact ⟨o, ho, ih o Γ Q E p s st h⟩
  | update a _ f k ih => intro Γ Q E p s st h; exact ⟨h.1, ih () Γ Q E p { s with heap := s.heap.update a f } st h.2⟩
  | loadIfAlive a k ih => intro Γ Q E p s st h; exact ih _ Γ Q E p s st h
  | point _ k ih => intro Γ Q E p s st h; exact ih () Γ Q E p s st h
  | register _ _ => intro Γ Q E p s _ h; exact h
  | alloc o k ih => intro Γ Q E p s st h; exact ih _ Γ Q E p { s with heap := s.heap.push o } st h
  | fresh k ih => intro Γ Q E p s st h; exact ih _ Γ Q E p { s with toks := s.toks + 1 } st h
  | ask k ih => intro Γ Q E p s st h; exact ih _ Γ Q E p s st h
  | choose src m k ih => intro Γ Q E p s st h; exact ⟨h.1, ih _ Γ Q E p { s with drawn := s.drawn.bump src } st h.2⟩
  | os q _ k ih => intro Γ Q E p s st h; exact ih _ Γ Q E p { s with os := (Os.step s.os q).1 } st h
  | call c hd _ _ k ih =>
    intro Γ Q E p s st h
    obtain ⟨r, s', hr, h⟩ := h
    obtain ⟨a, b, _⟩ := runs_un hr ng_nil st
    exact ⟨r, un ρ s', a, ih r Γ Q E p s' b h⟩
  | handled own k ih => intro Γ Q E p s st h; exact ih _ Γ Q E p s st h
  | genState g k ih =>
    intro Γ Q E p s st h
    obtain ⟨x, hs, h⟩ := h
    cases e0 : ρ g with
    | none => exact ⟨x, by show (unG ρ s.gens)[g]? = _; rw [unG_none e0]; exact hs, ih _ Γ Q E p s st h⟩
    | some y =>
      obtain ⟨k1, l1, c1, p1, fs1, cl1, ey, q⟩ := st.st g y e0
      rw [hs] at q
      cases q
      refine ⟨y, by show (unG ρ s.gens)[g]? = _; rw [unG_get, hs, e0]; rfl, ?_⟩
      rw [ey]
      exact ih _ Γ Q E p s st h
  | newGen c k ih =>
    intro Γ Q E p s st h
    have q := ih s.gens.size Γ Q E p { s with gens := s.gens.push (.fresh c) } st.push h
    show wp M Γ (k (unG ρ s.gens).size) _ _ p { un ρ s with gens := (unG ρ s.gens).push (.fresh c) }
    rw [unG_size, ← unG_push st.size]
    exact q
  | resume g r _ k ih =>
    intro Γ Q E p s st h
    obtain ⟨res, s', hw, h⟩ := h
    cases e0 : ρ g with
    | some y =>
      obtain ⟨k1, l1, c1, p1, fs1, cl1, ey, q⟩ := st.st g y e0
      unfold Wakes at hw
      rw [q] at hw
      obtain ⟨_, _, hr, _⟩ := hw
      exact (no_unsupported hr).elim
    | none =>
      have eg : (unG ρ s.gens)[g]? = s.gens[g]? := unG_none e0
      unfold Wakes at hw
      cases hq : s.gens[g]? with
      | none => rw [hq] at hw; exact hw.elim
      | some x =>
        rw [hq] at hw
        have eg' : (un ρ s).gens[g]? = some x := eg.trans hq
        cases x with
        | fresh c =>
          cases r with
          | throw x =>
            obtain ⟨rfl, rfl⟩ := hw
            refine ⟨_, un ρ (s.setGen g .finished), ?_, ih _ Γ Q E p (s.setGen g .finished) (st.set e0 fun _ _ _ _ _ _ z => by cases z) h⟩
            unfold Wakes
            rw [eg']
            exact ⟨rfl, un_set e0⟩
          | send v =>
            cases v with
            | none =>
              obtain ⟨e1, s1, hr, hq1, rfl, rfl⟩ := hw
              obtain ⟨a, b, c1⟩ := runs_un hr ng_nil (st.set e0 fun _ _ _ _ _ _ z => by cases z)
              rw [un_set e0] at a
              refine ⟨_, _, ?_, ih _ Γ Q E p (s1.setGen g e1.genState) (b.set e0 (nge_state c1)) h⟩
              unfold Wakes
              rw [eg']
              exact ⟨e1, un ρ s1, a, hq1, rfl, un_set e0⟩
            | _ =>
              obtain ⟨rfl, rfl⟩ := hw
              refine ⟨_, un ρ s', ?_, ih _ Γ Q E p s' st h⟩
              unfold Wakes
              rw [eg']
              exact ⟨rfl, rfl⟩
        | suspended k1 l1 c1 p1 fs1 cl1 =>
          obtain ⟨e1, s1, hr, hq1, rfl, rfl⟩ := hw
          obtain ⟨a, b, c1⟩ := runs_un hr (st.good g _ _ _ _ _ _ e0 hq) (st.set e0 fun _ _ _ _ _ _ z => by cases z)
          rw [un_set e0] at a
          refine ⟨_, _, ?_, ih _ Γ Q E p (s1.setGen g e1.genState) (b.set e0 (nge_state c1)) h⟩
          unfold Wakes
          rw [eg']
          exact ⟨e1, un ρ s1, a, hq1, rfl, un_set e0⟩
        | running =>
          obtain ⟨rfl, rfl⟩ := hw
          refine ⟨_, un ρ s', ?_, ih _ Γ Q E p s' st h⟩
          unfold Wakes
          rw [eg']
          exact ⟨rfl, rfl⟩
        | finished =>
          obtain ⟨rfl, rfl⟩ := hw
          refine ⟨_, un ρ s', ?_, ih _ Γ Q E p s' st h⟩
          unfold Wakes
          rw [eg']
          exact ⟨rfl, rfl⟩
  | yield _ _ _ _ => intro Γ Q E p s _ h; exact h
  | stack k ih => intro Γ Q E p s st h; exact ih _ Γ Q E p s st h
  | fork _ _ => intro Γ Q E p s _ h; exact h
  | thread k ih => intro Γ Q E p s st h; exact ih _ Γ Q E p s st h
  | await _ _ _ _ _ => intro Γ Q E p s _ h; exact h
def sleepers (G : Array GenState) : Nat → Option GenState := fun i => match G[i]? with
  | some (.suspended k l c p fs cl) => some (.suspended k l c p fs cl)
  | _ => none
def lulled (s : Shared) : Shared := { s with gens := s.gens.map stub }
theorem lulled_un (s : Shared) : un (sleepers s.gens) (lulled s) = s := by
  have e : unG (sleepers s.gens) (s.gens.map stub) = s.gens := by
    refine Array.ext_getElem? fun i => ?_
    rw [unG_get, Array.getElem?_map]
    unfold sleepers
    cases s.gens[i]? with
    | none => rfl
    | some x => cases x <;> rfl
  show ({ s with gens := unG (sleepers s.gens) (s.gens.map stub) } : Shared) = s
  rw [e]
theorem lulled_st (s : Shared) : StO (sleepers s.gens) (lulled s).gens := by
  refine ⟨fun i y e => ?_, fun i k l c p fs cl e q => ?_⟩
  · have q : (lulled s).gens[i]? = (s.gens[i]?).map stub := Array.getElem?_map ..
    unfold sleepers at e
    rw [q]
    cases h : s.gens[i]? with
    | none => rw [h] at e; cases e
    | some x =>
      rw [h] at e
      cases x with
      | suspended k l c p fs cl => cases e; exact ⟨k, l, c, p, fs, cl, rfl, rfl⟩
      | _ => cases e
  · have q2 : (lulled s).gens[i]? = (s.gens[i]?).map stub := Array.getElem?_map ..
    rw [q2] at q
    unfold sleepers at e
    cases h : s.gens[i]? with
    | none => rw [h] at q; cases q
    | some x =>
      rw [h] at q e
      cases x with
      | suspended k l c p fs cl => cases e
      | _ => cases q
theorem lulled_bare {s : Shared} (h : AllBare s.gens) : AllBare (lulled s).gens := fun y hy => by
  obtain ⟨x, hx, e⟩ := Array.mem_map.mp (show y ∈ s.gens.map stub from hy)
  rw [← e, stub_bare]
  exact h x hx
/-- who slept sleeps on -/
def Sleep (s s' : Shared) : Prop := ∀ (g : Nat) (k : Resume → Sem PySem.Fin) (l : List Value) (c : Code) (p : Pos) (fs : List Frame) (cl : Bool), s.gens[g]? = some (GenState.suspended k l c p fs cl) → s'.gens[g]? = some (GenState.suspended k l c p fs cl)
/-- THE RULE: it runs beside sleepers as if they could not be woken; they sleep on -/
theorem wpAny_beside {α : Type} {M : Model} {A : Around} {t : Sem α} {Q : α → Shared → Prop} {E : Value → Shared → Prop} {s : Shared} (hb : AllBare s.gens) (h : wpAny M A t Q E (lulled s)) :
    wpAny M A t (fun a s' => ∃ G, Q a { s' with gens := G } ∧ (AllBare G → AllBare s'.gens) ∧ Sleep s s')
      (fun a s' => ∃ G, E a { s' with gens := G } ∧ (AllBare G → AllBare s'.gens) ∧ Sleep s s') s := by
  have key : ∀ (s2 : Shared), StO (sleepers s.gens) s2.gens → (AllBare s2.gens → AllBare (un (sleepers s.gens) s2).gens) ∧ Sleep s (un (sleepers s.gens) s2) := fun s2 st => by
    refine ⟨fun hb2 y hy => ?_, fun g k l c p fs cl hg => ?_⟩
    · obtain ⟨i, hi, e⟩ := Array.mem_iff_getElem.mp hy
      have e2 : (unG (sleepers s.gens) s2.gens)[i]? = some y := by
        rw [← e]; exact Array.getElem?_eq_getElem hi
      rw [unG_get] at e2
      cases h2 : s2.gens[i]? with
      | none => rw [h2] at e2; cases e2
      | some x =>
        rw [h2] at e2
        have e3 : (sleepers s.gens i).getD x = y := Option.some.inj e2
        cases h3 : sleepers s.gens i with
        | none => rw [h3] at e3; rw [← e3]; exact hb2 x (Array.mem_of_getElem? h2)
        | some z =>
          rw [h3] at e3
          rw [← e3]
          unfold sleepers at h3
          cases h4 : s.gens[i]? with
          | none => rw [h4] at h3; cases h3
          | some q =>
            rw [h4] at h3
            cases q with
            | suspended k l c p fs cl => cases h3; exact hb _ (Array.mem_of_getElem? h4)
            | _ => cases h3
    · have e0 : sleepers s.gens g = some (GenState.suspended k l c p fs cl) := by unfold sleepers; rw [hg]
      obtain ⟨_, _, _, _, _, _, _, q⟩ := st.st g _ e0
      show (unG (sleepers s.gens) s2.gens)[g]? = _
      rw [unG_get, q, e0]
      rfl
  intro Γ p hΓ
  have q := wp_un M (sleepers s.gens) t Γ _ _ p (lulled s) (lulled_st s) (h Γ p hΓ)
  rw [lulled_un] at q
  refine Sem.wp_mono M Γ t (fun a p' s' z => ?_) (fun a p' s' z => ?_) p s q
  · obtain ⟨s2, rfl, st, z⟩ := z
    exact ⟨s2.gens, z, (key s2 st).1, (key s2 st).2⟩
  · obtain ⟨s2, rfl, st, z⟩ := z
    exact ⟨s2.gens, z, (key s2 st).1, (key s2 st).2⟩
end GnX
namespace GnX
open PySem PySem.Spec PyProof.Rows L2 GenW
/-! ### a heap cut to its first n objects -/
def trn (h : Heap) (n : Nat) : Heap := { h with objs := h.objs.extract 0 n }
theorem trn_raw {h : Heap} {n b : Nat} : (trn h n).objs[b]? = if b < n then h.objs[b]? else none := by
  show (h.objs.extract 0 n)[b]? = _
  rw [Array.getElem?_extract]
  by_cases hb : b < n
  · rw [if_pos hb]
    by_cases hs : b < h.objs.size
    · rw [if_pos (by omega), Nat.zero_add]
    · rw [if_neg (by omega), Array.getElem?_eq_none (by omega)]
  · rw [if_neg hb, if_neg (by omega)]
theorem trn_get {h : Heap} {n b : Nat} (hb : b < n) : (trn h n).get? b = h.get? b := by
  unfold Heap.get?
  rw [trn_raw, if_pos hb]
theorem trn_out {h : Heap} {n b : Nat} (hb : ¬ b < n) : (trn h n).get? b = none := by
  unfold Heap.get?
  rw [trn_raw, if_neg hb]
theorem trn_keep {h : Heap} {n b : Nat} {o : Obj} (e : (trn h n).get? b = some o) : b < n ∧ h.get? b = some o := by
  by_cases hb : b < n
  · exact ⟨hb, by rw [← trn_get hb]; exact e⟩
  · rw [trn_out hb] at e; cases e
theorem trn_size {h : Heap} {n : Nat} (hn : n ≤ h.objs.size) : (trn h n).objs.size = n := by
  show (h.objs.extract 0 n).size = n
  rw [Array.size_extract]
  omega
theorem frames_trn {h base : Heap} {n : Nat} : ∀ {l : List Env}, h.FunFrames base l → (∀ b ∈ frs l, b < n) → (trn h n).FunFrames base l
  | [], _, _ => trivial
  | env :: r, hl, hf => by
    obtain ⟨hk, ⟨L, o, hL, hn, ho, hd⟩, hr⟩ := hl
    have mL : L ∈ frs (env :: r) := by unfold frs; rw [List.filterMap_cons, hL]; exact List.mem_cons_self
    have sub : ∀ b ∈ frs r, b ∈ frs (env :: r) := fun b hb => by unfold frs; rw [List.filterMap_cons, hL]; exact List.mem_cons_of_mem _ hb
    exact ⟨hk, ⟨L, o, hL, hn, by rw [trn_get (hf L mL)]; exact ho, hd⟩, frames_trn hr fun b hb => hf b (sub b hb)⟩
/-! ### what is known -/
abbrev Kn := List (Addr × HO)
def hpL (l : Kn) : Hp := fun b => l.lookup b
/-- known things lean on known things alone -/
def Clo (cn : Kn) : Prop := ∀ b u, cn.lookup b = some u → match u with
  | .ins C dx _ => cn.lookup dx = some (.own b)
  | .own x => ∃ C fs, cn.lookup x = some (.ins C b fs)
  | .tup _ => True
  | .lst _ => True
  | _ => False
theorem clo_ok {P : Program} {w : World} {cn : Kn} {H H' : Hp} {h : Heap} (c : Clo cn) (k : ∀ b u, cn.lookup b = some u → H' b = some u) {b : Addr} {u : HO} (e : cn.lookup b = some u) (x : ObjOk P w H h b u) : ObjOk P w H' h b u := by
  have q := c b u e
  cases u with
  | ins C dx fs => obtain ⟨_, r⟩ := x; exact ⟨k _ _ q, r⟩
  | own y => exact x
  | tup xs => exact x
  | lst xs => exact x
  | dK _ => exact q.elim
  | dT _ => exact q.elim
  | set _ _ => exact q.elim
  | xd _ => exact q.elim
  | met _ _ => exact q.elim
  | rng _ _ => exact q.elim
  | frz _ _ => exact q.elim
  | tbl _ => exact q.elim
  | ext _ => exact q.elim
theorem clo_exists {P : Program} {w : World} {cn : Kn} {H : Hp} {h : Heap} (c : Clo cn) {b : Addr} {u : HO} (e : cn.lookup b = some u) (x : ObjOk P w H h b u) : ∃ o, h.get? b = some o := by
  have q := c b u e
  cases u with
  | ins C dx fs => obtain ⟨_, _, _, r, _⟩ := x; exact ⟨_, r⟩
  | own y => exact x
  | tup xs => obtain ⟨_, _, _, o, r, _⟩ := x; exact ⟨o, r⟩
  | lst xs => obtain ⟨_, _, _, _, r⟩ := x; exact ⟨_, r⟩
  | dK _ => exact q.elim
  | dT _ => exact q.elim
  | set _ _ => exact q.elim
  | xd _ => exact q.elim
  | met _ _ => exact q.elim
  | rng _ _ => exact q.elim
  | frz _ _ => exact q.elim
  | tbl _ => exact q.elim
  | ext _ => exact q.elim
/-! ### what a generator wants ahead of a wake, what it leaves behind -/
abbrev Pins := List (Addr × Obj)
abbrev adr (M : Pins) : List Addr := M.map (·.1)
structure Need (P : Program) (w : World) (base : Heap) (outer : List Env) (cn : Kn) (M : Pins) (s : Shared) : Prop where
  bare : AllBare s.gens
  bs : ∀ b o, base.get? b = some o → s.heap.get? b = some o
  funs : s.heap.FunFrames base outer
  cn : ∀ b u, cn.lookup b = some u → ObjOk P w (hpL cn) s.heap b u
  pin : ∀ q ∈ M, s.heap.get? q.1 = some q.2
structure Step (P : Program) (w : World) (outer : List Env) (cn : Kn) (M : Pins) (s : Shared) (M' : Pins) (s1 : Shared) : Prop where
  os : s1.os = s.os
  bare : AllBare s1.gens
  keep : ∀ b o, s.heap.get? b = some o → b ∉ adr M → cn.lookup b = none → b ∉ frs outer → s1.heap.get? b = some o
  slot : ∀ b o, s.heap.get? b = some o → b ∈ frs outer → ∃ sl, s1.heap.get? b = some { o with slots := sl }
  cn : ∀ b u, cn.lookup b = some u → ObjOk P w (hpL cn) s1.heap b u
  pin : ∀ q ∈ M', s1.heap.get? q.1 = some q.2 ∧ (∀ v, q.2.data ≠ .cell v) ∧ (q.1 ∈ adr M ∨ s.heap.get? q.1 = none)
/-- the consumer: WK ahead of the k-th wake, CY behind a yield, CE behind the end -/
structure Cons (P : Program) (w : World) (base : Heap) (outer : List Env) (cn : Kn) (rows : List (List V)) (WK : Nat → Pins → Shared → Prop) (CY : Nat → Pins → Value → Shared → Prop) (CE : Shared → Prop) : Prop where
  need : ∀ k M s, WK k M s → Need P w base outer cn M s
  item : ∀ k M M' row p s s1, rows[k]? = some row → WK k M s → Step P w outer cn M s M' s1 → (p ∈ adr M ∨ s.heap.get? p = none) → row.length ≤ sizeLine → (∃ its, Vals row its ∧ IsTup s1.heap p its.toArray) → p ∉ adr M' → CY k M' (.ref p) s1
  done : ∀ M s s1, WK rows.length M s → Step P w outer cn M s [] s1 → CE s1
def YP (WK : Nat → Pins → Shared → Prop) (CY : Nat → Pins → Value → Shared → Prop) (N : Nat) : Protocol := fun n _ v s1 kap => ∃ M k, n + 1 + k = N ∧ CY k M v s1 ∧ ∀ s', WK (k + 1) M s' → kap (.send .none) s'
def RP (CE : Shared → Prop) : GenEnd := fun n s0 r s1 => ((r = .ok (.ret .none) ∨ r = .ok .next) ∧ (fun _ _ s => CE s) n s0 s1) ∨ ∃ e, r = .error e ∧ (fun _ _ => False) e s1
/-! ### the generator's own context -/
structure Pl where
  P : Program
  w : World
  K : PySem.W.Frag
  mg : Str → Option Value
  base : Heap
  N : List Str
  qual : Str
  scope : Scope
  f : Addr
  cd : Value
  A : Around
  outer : List Env
  n0 : Nat
def Pl.env (L : Pl) : Env := envOfC L.qual L.scope L.n0 L.f L.cd
def Pl.cx (L : Pl) (t : Shared) (G : Hp) : Cx where
  prog := L.P
  w := L.w
  K := L.K
  mg := L.mg
  base := L.base
  A := L.A.deeper L.env
  N := L.N
  s_0 := t
  H_0 := G
  env := L.env
  outer := L.outer
  stack := L.env :: L.outer
  ex := []
  calm := true
  fn := fun _ => true
  pn := []
  xe := fun _ _ => False
structure Pl.Ok (L : Pl) : Prop where
  mod : Mod L.K L.mg L.base
  kind : L.scope.kind = .function
  nocell : ∀ y ∈ L.scope.names, y.2 ≠ .cell ∧ y.2 ≠ .free
  hd : L.A.handled = none
  frames : L.A.frames = some L.outer
  bsz : L.base.objs.size ≤ L.n0
  fr : ∀ b ∈ frs L.outer, b < L.n0
theorem Pl.Ok.cells {L : Pl} (o : L.Ok) {x : Str} {c : Addr} (e : L.env.cells.lookup x = some c) : False := by
  have hm := PySem.mem_of_lookup e
  have key : ∀ {names : List (Str × NameKind)} {n : Nat} {acc : List (Str × Addr)} {q : Str × Addr}, (∀ y ∈ names, y.2 ≠ .cell) → q ∈ cellsFrom n names acc → q ∈ acc := by
    intro names
    induction names with
    | nil => intro n acc q _ h; exact h
    | cons y r ih =>
      intro n acc q hn h
      obtain ⟨m, k⟩ := y
      unfold cellsFrom at h
      split at h
      · rename_i hk
        have hk : k = .cell := by simpa using hk
        exact absurd hk (hn (m, k) List.mem_cons_self)
      · exact ih (fun y hy => hn y (List.mem_cons_of_mem _ hy)) h
  have := key (fun y hy => (o.nocell y hy).1) (show (x, c) ∈ cellsFrom (L.n0 + 1) L.scope.names [] from hm)
  cases this
/-- what the generator knows at a wake: kn, and every other young thing as it is -/
def gOf (n0 : Nat) (kn : Kn) (ip : List Addr) (h : Heap) : Hp := fun b => match kn.lookup b with
  | some u => some u
  | none => if n0 < b ∧ b ∉ ip then (h.get? b).map fun o => .frz o (.own 0) else none
theorem gOf_kn {n0 : Nat} {kn : Kn} {ip : List Addr} {h : Heap} {b : Addr} {u : HO} (e : kn.lookup b = some u) : gOf n0 kn ip h b = some u := by unfold gOf; rw [e]
theorem gOf_old {n0 : Nat} {kn : Kn} {ip : List Addr} {h : Heap} {b : Addr} (e : kn.lookup b = none) (hb : ¬ n0 < b) : gOf n0 kn ip h b = none := by
  unfold gOf; rw [e]
  exact if_neg fun z => hb z.1
theorem gOf_ip {n0 : Nat} {kn : Kn} {ip : List Addr} {h : Heap} {b : Addr} (e : kn.lookup b = none) (hb : b ∈ ip) : gOf n0 kn ip h b = none := by
  unfold gOf; rw [e]
  exact if_neg fun z => z.2 hb
theorem gOf_frz {n0 : Nat} {kn : Kn} {ip : List Addr} {h : Heap} {b : Addr} {o : Obj} (e : kn.lookup b = none) (hb : n0 < b) (hi : b ∉ ip) (ho : h.get? b = some o) : gOf n0 kn ip h b = some (.frz o (.own 0)) := by
  unfold gOf; rw [e]
  show (if _ then _ else _) = _
  rw [if_pos ⟨hb, hi⟩, ho]; rfl
theorem gOf_cases {n0 : Nat} {kn : Kn} {ip : List Addr} {h : Heap} {b : Addr} {u : HO} (e : gOf n0 kn ip h b = some u) : kn.lookup b = some u ∨ (kn.lookup b = none ∧ n0 < b ∧ b ∉ ip ∧ ∃ o, h.get? b = some o ∧ u = .frz o (.own 0)) := by
  unfold gOf at e
  cases q : kn.lookup b with
  | some v => rw [q] at e; exact .inl e
  | none =>
    rw [q] at e
    have e : (if n0 < b ∧ b ∉ ip then (h.get? b).map fun o => HO.frz o (.own 0) else none) = some u := e
    by_cases z : n0 < b ∧ b ∉ ip
    · rw [if_pos z] at e
      cases r : h.get? b with
      | none => rw [r] at e; cases e
      | some o => rw [r] at e; exact .inr ⟨rfl, z.1, z.2, o, rfl, (Option.some.inj e).symm⟩
    · rw [if_neg z] at e; cases e
/-- at rest -/
structure Rest (L : Pl) (kn : Kn) (ip : Pins) (σ : L2.St) (s : Shared) : Prop where
  bare : AllBare s.gens
  bs : ∀ b o, L.base.get? b = some o → s.heap.get? b = some o
  funs : s.heap.FunFrames L.base L.outer
  loc : ∃ m, s.heap.Ns L.n0 m ∧ ∀ (i : Nat) (x : Str) (v : V), L.N[i]? = some x → σ[i]? = some (some v) → Vis L.scope x → ∃ u, RelV v u ∧ Look L.env s.heap m x u
  knO : ∀ b u, kn.lookup b = some u → ObjOk L.P L.w (hpL kn) s.heap b u
  knA : ∀ b u, kn.lookup b = some u → L.base.get? b = none ∧ b ∉ frs L.outer ∧ b ≠ L.n0 ∧ b ∉ adr ip
  ip : ∀ p ∈ ip, s.heap.get? p.1 = some p.2 ∧ p.1 ∉ frs L.outer ∧ p.1 ≠ L.n0 ∧ ∀ v, p.2.data ≠ .cell v
  len : σ.length = L.N.length
theorem rebase {L : Pl} (o : L.Ok) {kn : Kn} {ip : Pins} {σ : L2.St} {s : Shared} (R : Rest L kn ip σ s) (c : Clo kn) :
    Inv (L.cx { s with heap := trn s.heap L.n0 } (gOf L.n0 kn (adr ip) s.heap)) ip σ (gOf L.n0 kn (adr ip) s.heap) s := by
  obtain ⟨m, hn, hl⟩ := id R.loc
  have hlt : L.n0 < s.heap.objs.size := hn.lt
  have hsz : (trn s.heap L.n0).objs.size = L.n0 := trn_size (Nat.le_of_lt hlt)
  have ltB : ∀ b o, L.base.get? b = some o → b < L.n0 := fun b ob e => Nat.lt_of_lt_of_le (Heap.lt_size e) o.bsz
  have nk : ∀ b, (∀ u, kn.lookup b = some u → False) → kn.lookup b = none := fun b h => by
    cases q : kn.lookup b with
    | none => rfl
    | some u => exact (h u q).elim
  have bsN : ∀ b ob, L.base.get? b = some ob → gOf L.n0 kn (adr ip) s.heap b = none := fun b ob e =>
    gOf_old (nk b fun u q => by have := (R.knA b u q).1; rw [e] at this; cases this) (Nat.not_lt.mpr (Nat.le_of_lt (ltB b ob e)))
  have frN : ∀ b ∈ frs L.outer, gOf L.n0 kn (adr ip) s.heap b = none := fun b hb =>
    gOf_old (nk b fun u q => (R.knA b u q).2.1 hb) (Nat.not_lt.mpr (Nat.le_of_lt (o.fr b hb)))
  have noc : ∀ {x : Str} {c : Addr} {p : Prop}, L.env.cells.lookup x = some c → p := fun e => (o.cells e).elim
  refine ⟨⟨o.mod, o.kind, rfl, rfl, Nat.le_of_eq hsz, fun _ _ _ e _ => noc e, fun y hy => ?_, fun _ _ _ e => noc e, fun _ => o.hd, Around.frames_deeper o.frames, .inr ⟨rfl, rfl⟩, fun b hb => absurd hb (by simp [Pl.cx]), fun b ob e => ⟨?_, bsN b ob e⟩, ?_,
    fun b _ _ hb => absurd hb (by simp [Pl.cx]), fun b hb => absurd hb (by simp [Pl.cx]), frames_trn R.funs o.fr, frN⟩, rfl, R.bare, Un.kept fun b u e => (trn_keep e).2, ⟨m, hn, hl⟩, fun _ _ e => noc e, ?_, fun _ _ e => noc e, fun p hp => ?_, fun b u e => ?_, R.len⟩
  · have bad : ∀ k, L.scope.names.lookup y = some k → k = .cell ∨ k = .free → False := fun k e z => by
      have q := o.nocell _ (PySem.mem_of_lookup e)
      rcases z with z | z
      · exact q.1 z
      · exact q.2 z
    rcases hy with hy | hy
    · exact (bad _ hy (.inl rfl)).elim
    · exact (bad _ hy (.inr rfl)).elim
  · show (trn s.heap L.n0).get? b = some ob
    rw [trn_get (ltB b ob e)]; exact R.bs b ob e
  · show L.base.objs.size ≤ (trn s.heap L.n0).objs.size
    rw [hsz]; exact o.bsz
  · exact gOf_old (nk _ fun u q => (R.knA _ u q).2.2.1 rfl) (Nat.lt_irrefl _)
  · have hp : p ∈ ip := by simpa [Pl.cx] using hp
    obtain ⟨a1, a2, a3, a4⟩ := R.ip p hp
    have hm : p.1 ∈ adr ip := List.mem_map.mpr ⟨p, hp, rfl⟩
    exact ⟨a1, gOf_ip (nk _ fun u q => (R.knA _ u q).2.2.2 hm) hm, a3, a2, a4⟩
  · rcases gOf_cases e with q | ⟨_, _, _, ob, ho, rfl⟩
    · exact clo_ok c (fun b' u' e' => gOf_kn e') q (R.knO b u q)
    · exact ⟨ho, ob, ho⟩
end GnX
namespace GnX
open PySem PySem.Spec PyProof.Rows L2 GenW
/-- a generator and its consumer -/
structure GBd where
  L : Pl
  cn : Kn
  rows : List (List V)
  WK : Nat → Pins → Shared → Prop
  CY : Nat → Pins → Value → Shared → Prop
  CE : Shared → Prop
structure GBd.Ok (B : GBd) : Prop where
  pl : B.L.Ok
  clo : Clo B.cn
  cons : Cons B.L.P B.L.w B.L.base B.L.outer B.cn B.rows B.WK B.CY B.CE
abbrev adK (ow : Kn) : List Addr := ow.map (·.1)
theorem mem_look : ∀ {l : Kn} {b : Addr} {u : HO}, l.lookup b = some u → (b, u) ∈ l
  | [], _, _, h => by cases h
  | (x, v) :: r, b, u, h => by
    rw [List.lookup_cons] at h
    cases q : b == x with
    | true =>
      rw [q] at h
      have e : b = x := by simpa using q
      cases h
      rw [e]; exact List.mem_cons_self
    | false => rw [q] at h; exact List.mem_cons_of_mem _ (mem_look h)
theorem look_app {a b : Kn} {x : Addr} {u : HO} (h : (a ++ b).lookup x = some u) : a.lookup x = some u ∨ (a.lookup x = none ∧ b.lookup x = some u) := by
  rw [List.lookup_append] at h
  cases q : a.lookup x with
  | some v => rw [q] at h; exact .inl h
  | none => rw [q] at h; exact .inr ⟨rfl, h⟩
theorem look_app1 {a b : Kn} {x : Addr} {u : HO} (h : a.lookup x = some u) : (a ++ b).lookup x = some u := by rw [List.lookup_append, h]; rfl
theorem clo_app {cn ow : Kn} (c : Clo cn) (h : ∀ q ∈ ow, ∃ xs, q.2 = .lst xs) : Clo (cn ++ ow) := fun b u e => by
  rcases look_app e with q | ⟨_, q⟩
  · have z := c b u q
    cases u with
    | ins C dx fs => exact look_app1 z
    | own y => obtain ⟨C, fs, z⟩ := z; exact ⟨C, fs, look_app1 z⟩
    | tup xs => trivial
    | lst xs => trivial
    | dK _ => exact z.elim
    | dT _ => exact z.elim
    | set _ _ => exact z.elim
    | xd _ => exact z.elim
    | met _ _ => exact z.elim
    | rng _ _ => exact z.elim
    | frz _ _ => exact z.elim
    | tbl _ => exact z.elim
    | ext _ => exact z.elim
  · obtain ⟨xs, e2⟩ := h (b, u) (mem_look q)
    subst e2
    trivial
/-- within a segment: the wake it began at, and the state now -/
structure GIn (B : GBd) (k : Nat) (ip : Pins) (σ : L2.St) (H : Hp) (M : Pins) (sw : Shared) (ow : Kn) (ipw : List Addr) (s : Shared) : Prop where
  wk : B.WK k M sw
  mM : ∀ b, b ∈ adr M ↔ b = B.L.n0 ∨ b ∈ ipw ∨ b ∈ adK ow
  lst : ∀ q ∈ ow, ∃ xs, q.2 = .lst xs
  fr : ∀ b ∈ frs B.L.outer, (B.cn ++ ow).lookup b = none
  ipy : ∀ p ∈ ip, B.L.n0 ≤ p.1
  sz : B.L.n0 ≤ sw.heap.objs.size
  I : Inv (B.L.cx { sw with heap := trn sw.heap B.L.n0 } (gOf B.L.n0 (B.cn ++ ow) ipw sw.heap)) ip σ H s
def GI2 (B : GBd) (k : Nat) (ip : Pins) (σ : L2.St) (H : Hp) (s : Shared) : Prop := ∃ M sw ow ipw, GIn B k ip σ H M sw ow ipw s
/-- what is wanted of the heap's knowledge at a yield, at the end: the consumer's things are as they were; ow: the lists that the generator goes on with -/
def Knows (cn : Kn) (H : Hp) : Prop := ∀ b u, cn.lookup b = some u → H b = some u
def Owns (cn ow : Kn) (H : Hp) : Prop := ∀ q ∈ ow, (∃ xs, q.2 = .lst xs) ∧ H q.1 = some q.2 ∧ cn.lookup q.1 = none
section
variable {B : GBd} {k : Nat} {ip : Pins} {σ : L2.St} {H : Hp} {M : Pins} {sw s : Shared} {ow ow' : Kn} {ipw : List Addr}
theorem GIn.step (g : GIn B k ip σ H M sw ow ipw s) (ok : B.Ok) (hc : Knows B.cn H) (hw : Owns B.cn ow' H) {fp : List Addr} (hf : ∀ b ∈ fp, b = B.L.n0 ∨ b ∈ adr ip ∨ b ∈ adK ow') :
    Step B.L.P B.L.w B.L.outer B.cn M sw (pinsAt fp s.heap) s := by
  have I := g.I
  have G0 : ∀ b, b ∉ adr M → B.cn.lookup b = none → (B.cn ++ ow).lookup b = none := fun b hb e => by
    cases q : (B.cn ++ ow).lookup b with
    | none => rfl
    | some u =>
      rcases look_app q with z | ⟨_, z⟩
      · rw [e] at z; cases z
      · exact absurd ((g.mM b).mpr (.inr (.inr (List.mem_map.mpr ⟨(b, u), mem_look z, rfl⟩)))) hb
  have young : ∀ b o, sw.heap.get? b = some o → b ∉ adr M → B.cn.lookup b = none → B.L.n0 < b → H b = some (.frz o (.own 0)) := fun b o e hb c hlt =>
    I.base.frzs b o _ (gOf_frz (G0 b hb c) hlt (fun z => hb ((g.mM b).mpr (.inr (.inl z)))) e)
  refine ⟨I.os, I.bare, fun b o e hb c hfr => ?_, fun b o e hfr => ?_, fun b u e => ?_, fun q hq => ?_⟩
  · have gk := G0 b hb c
    by_cases hlt : B.L.n0 < b
    · exact (I.hok b _ (young b o e hb c hlt)).1
    · have hne : b ≠ B.L.n0 := fun z => hb ((g.mM b).mpr (.inl z))
      have hl : b < B.L.n0 := Nat.lt_of_le_of_ne (Nat.le_of_not_lt hlt) hne
      exact I.base.keep b o (by show (trn sw.heap B.L.n0).get? b = _; rw [trn_get hl]; exact e) (gOf_old gk hlt) hfr (by simp [Pl.cx])
  · have hl := ok.pl.fr b hfr
    exact I.base.slot b o (by show (trn sw.heap B.L.n0).get? b = _; rw [trn_get hl]; exact e) (gOf_old (g.fr b hfr) (Nat.not_lt.mpr (Nat.le_of_lt hl))) hfr (by simp [Pl.cx])
  · exact clo_ok ok.clo (fun _ _ z => z) e (I.hok b u (hc b u e))
  · obtain ⟨hb, e⟩ := of_pinsAt hq
    have lstAt : ∀ x ∈ adK ow', ∃ xs, H x = some (.lst xs) ∧ B.cn.lookup x = none := fun x hx => by
      obtain ⟨p, hp, e1⟩ := List.mem_map.mp hx
      obtain ⟨⟨xs, e2⟩, e3, e4⟩ := hw p hp
      rw [← e1]
      exact ⟨xs, by rw [e3, e2], e4⟩
    have fresh : ∀ x, B.cn.lookup x = none → x ≠ B.L.n0 → (H x = none ∧ B.L.n0 ≤ x ∨ ∃ xs, H x = some (.lst xs)) → x ∈ adr M ∨ sw.heap.get? x = none := fun x c hne h => by
      cases z : sw.heap.get? x with
      | none => exact .inr rfl
      | some ob =>
        by_cases hm : x ∈ adr M
        · exact .inl hm
        · exfalso
          by_cases hlt : B.L.n0 < x
          · have y := young x ob z hm c hlt
            rcases h with h | ⟨xs, h⟩
            · rw [h.1] at y; cases y
            · rw [h] at y; cases y
          · have hl : x < B.L.n0 := Nat.lt_of_le_of_ne (Nat.le_of_not_lt hlt) hne
            rcases h with h | ⟨xs, h⟩
            · exact absurd (Nat.lt_of_lt_of_le hl h.2) (Nat.lt_irrefl _)
            · have y := I.base.free x ob (by show (trn sw.heap B.L.n0).get? x = _; rw [trn_get hl]; exact z) (gOf_old (G0 x hm c) hlt) (by simp [Pl.cx])
              rw [h] at y; cases y
    refine ⟨e, ?_, ?_⟩
    · rcases hf q.1 hb with h | h | h
      · obtain ⟨m, ⟨o, es, ep, ho, hd, _⟩, _⟩ := I.loc
        have ho : s.heap.get? B.L.n0 = some o := ho
        rw [← h, e] at ho
        cases ho
        intro v z
        rw [hd] at z; cases z
      · obtain ⟨p, hp, e1⟩ := List.mem_map.mp h
        have y := I.pin p (List.mem_append_right _ hp)
        rw [e1, e] at y
        have e2 : q.2 = p.2 := Option.some.inj y.1
        rw [e2]
        exact y.2.2.2.2
      · obtain ⟨xs, h1, _⟩ := lstAt q.1 h
        obtain ⟨_, its, n, _, y⟩ := I.hok q.1 _ h1
        rw [e] at y
        have e2 := Option.some.inj y
        rw [e2]
        intro v z; cases z
    · rcases hf q.1 hb with h | h | h
      · exact .inl ((g.mM q.1).mpr (.inl h))
      · obtain ⟨p, hp, e1⟩ := List.mem_map.mp h
        have y := I.pin p (List.mem_append_right _ hp)
        rw [e1] at y
        by_cases hm : q.1 ∈ adr M
        · exact .inl hm
        · cases z : sw.heap.get? q.1 with
          | none => exact .inr rfl
          | some ob =>
            exfalso
            cases c : B.cn.lookup q.1 with
            | some u =>
              have := hc _ _ c
              rw [y.2.1] at this; cases this
            | none =>
              have h1 := g.ipy p hp
              rw [e1] at h1
              have h2 : q.1 ≠ B.L.n0 := y.2.2.1
              have w := young q.1 ob z hm c (Nat.lt_of_le_of_ne h1 (Ne.symm h2))
              rw [y.2.1] at w; cases w
      · obtain ⟨xs, h1, c⟩ := lstAt q.1 h
        exact fresh q.1 c (fun z => by
          have f0 : H B.L.n0 = none := I.free
          rw [← z, h1] at f0; cases f0) (.inr ⟨xs, h1⟩)
/-- what the consumer is told to keep -/
abbrev fpOf (B : GBd) (ip : Pins) (ow : Kn) : List Addr := B.L.n0 :: (adr ip ++ adK ow)
theorem GIn.woken (g : GIn B k ip σ H M sw ow ipw s) (ok : B.Ok) (hc : Knows B.cn H) (hw : Owns B.cn ow' H) {s' : Shared} (h : B.WK (k + 1) (pinsAt (fpOf B ip ow') s.heap) s') :
    GI2 B (k + 1) ip σ (gOf B.L.n0 (B.cn ++ ow') (adr ip) s'.heap) s' := by
  have I := g.I
  have N := ok.cons.need _ _ _ h
  have kp : ∀ b o, b ∈ fpOf B ip ow' → s.heap.get? b = some o → s'.heap.get? b = some o := fun b o hb e => N.pin (b, o) (mem_pinsAt hb e)
  have at0 : ∀ b u, (B.cn ++ ow').lookup b = some u → H b = some u := fun b u e => by
    rcases look_app e with q | ⟨_, q⟩
    · exact hc b u q
    · exact (hw (b, u) (mem_look q)).2.1
  obtain ⟨m, ⟨o0, es, ep, ho, hd, hr⟩, hl⟩ := I.loc
  have R : Rest B.L (B.cn ++ ow') ip σ s' := by
    refine ⟨N.bare, N.bs, N.funs, ⟨m, ⟨o0, es, ep, kp B.L.n0 o0 List.mem_cons_self ho, hd, hr⟩, fun i x v e1 e2 e3 => ?_⟩, fun b u e => ?_, fun b u e => ?_, fun p hp => ?_, I.len⟩
    · obtain ⟨u, r, l⟩ := hl i x v e1 e2 e3
      refine ⟨u, r, ?_⟩
      rcases l with l | ⟨_, c, e, _⟩
      · exact .inl l
      · exact (ok.pl.cells e).elim
    · rcases look_app e with q | ⟨_, q⟩
      · exact clo_ok ok.clo (fun _ _ z => look_app1 z) q (N.cn b u q)
      · obtain ⟨⟨xs, e2⟩, e3, _⟩ := hw (b, u) (mem_look q)
        have e2 : u = .lst xs := e2
        subst e2
        obtain ⟨z, its, n, r, y⟩ := I.hok b _ e3
        exact ⟨z, its, n, r, kp b _ (List.mem_cons_of_mem _ (List.mem_append_right _ (List.mem_map.mpr ⟨(b, .lst xs), mem_look q, rfl⟩))) y⟩
    · have e1 := at0 b u e
      refine ⟨?_, fun z => ?_, fun z => ?_, fun z => ?_⟩
      · cases q : B.L.base.get? b with
        | none => rfl
        | some ob =>
          have := (I.bs b ob q).2
          rw [e1] at this; cases this
      · have := I.stkFree b (by
          show b ∈ frs (B.L.env :: B.L.outer)
          unfold frs
          rw [List.filterMap_cons]
          cases B.L.env.frame with
          | none => exact z
          | some _ => exact List.mem_cons_of_mem _ z)
        rw [e1] at this; cases this
      · have f0 : H B.L.n0 = none := I.free
        rw [← z, e1] at f0; cases f0
      · obtain ⟨p, hp, e2⟩ := List.mem_map.mp z
        have := (I.pin p (List.mem_append_right _ hp)).2.1
        rw [e2, e1] at this; cases this
    · obtain ⟨a1, a2, a3, a4, a5⟩ := I.pin p (List.mem_append_right _ hp)
      exact ⟨kp p.1 p.2 (List.mem_cons_of_mem _ (List.mem_append_left _ (List.mem_map.mpr ⟨p, hp, rfl⟩))) a1, a4, a3, a5⟩
  refine ⟨_, s', ow', adr ip, ⟨h, fun b => ?_, fun q hq => (hw q hq).1, fun b hb => ?_, g.ipy, Nat.le_of_lt (Heap.lt_size (kp B.L.n0 o0 List.mem_cons_self ho)), rebase ok.pl R (clo_app ok.clo fun q hq => (hw q hq).1)⟩⟩
  · refine ⟨fun hb => ?_, fun hb => ?_⟩
    · obtain ⟨p, hp, e⟩ := List.mem_map.mp hb
      have y := (of_pinsAt hp).1
      rw [e] at y
      rcases List.mem_cons.mp y with z | z
      · exact .inl z
      · exact .inr (List.mem_append.mp z)
    · have hm : b ∈ fpOf B ip ow' := by
        rcases hb with z | z
        · rw [z]; exact List.mem_cons_self
        · exact List.mem_cons_of_mem _ (List.mem_append.mpr z)
      have ex : ∃ o, s.heap.get? b = some o := by
        rcases hb with z | z | z
        · exact ⟨o0, by rw [z]; exact ho⟩
        · obtain ⟨p, hp, e⟩ := List.mem_map.mp z
          exact ⟨p.2, by rw [← e]; exact (I.pin p (List.mem_append_right _ hp)).1⟩
        · obtain ⟨p, hp, e⟩ := List.mem_map.mp z
          obtain ⟨⟨xs, e2⟩, e3, _⟩ := hw p hp
          rw [e2] at e3
          obtain ⟨_, its, n, _, y⟩ := I.hok p.1 _ e3
          exact ⟨_, by rw [← e]; exact y⟩
      obtain ⟨o, e⟩ := ex
      exact List.mem_map.mpr ⟨(b, o), mem_pinsAt hm e, rfl⟩
  · cases q : (B.cn ++ ow').lookup b with
    | none => rfl
    | some u => exact absurd hb (R.knA b u q).2.1
end
end GnX
namespace GnX
open PySem PySem.Spec PyProof.Rows L2 GenW
/-! ### a generator's statements -/
structure GE where
  nx : Nat → L2.St → Hp → Prop
  bk : Nat → L2.St → Hp → Prop := fun _ _ _ => False
  ct : Nat → L2.St → Hp → Prop := fun _ _ _ => False
abbrev TG2 := GE → Nat → L2.St → Hp → Prop
abbrev SegB (B : GBd) (n : Nat) (s0 : Shared) (c : Code) (t : Sem PySem.Fin) (fs : List Frame) (s : Shared) : Prop :=
  Seg (model B.L.P B.L.w) B.L.A (RP B.CE) (YP B.WK B.CY B.rows.length) n s0 c t fs s
def GSP2 (B : GBd) (ip : Pins) (D : GE) (k : Nat) (f : Flow) (s : Shared) : Prop := match f with
  | .next => ∃ σ H, GI2 B k ip σ H s ∧ D.nx k σ H
  | .brk => ∃ σ H, GI2 B k ip σ H s ∧ D.bk k σ H
  | .cont => ∃ σ H, GI2 B k ip σ H s ∧ D.ct k σ H
  | .ret _ => False
structure GC2 (B : GBd) (c : Code) (fs : List Frame) (gd : Bool → Bool) : Prop where
  over : B.L.A.over c fs = B.L.A.deeper B.L.env
  split : splitAtGen fs = none
  guard : fs.any Frame.guarded = false
  gd : gd false = false
structure GS2 (B : GBd) (st : Stmt) (t : TG2) : Prop where
  run : ∀ (ip : Pins) (n k : Nat) (s0 : Shared) (c : Code) (fs : List Frame) (K : Flow → Sem PySem.Fin) (J : Value → Sem PySem.Fin) (gd : Bool → Bool) (lv : List Value → List Value) (s : Shared) (σ : L2.St) (H : Hp) (D : GE), B.Ok → GC2 B c fs gd → n + k = B.rows.length →
    (∀ n k s0 s f, n + k = B.rows.length → GSP2 B ip D k f s → SegB B n s0 c (K f) fs s) → GI2 B k ip σ H s → t D k σ H → SegB B n s0 c ((exec st B.L.env).wrap K J gd lv) fs s
structure GSs2 (B : GBd) (st : List Stmt) (t : TG2) : Prop where
  run : ∀ (ip : Pins) (n k : Nat) (s0 : Shared) (c : Code) (fs : List Frame) (K : Flow → Sem PySem.Fin) (J : Value → Sem PySem.Fin) (gd : Bool → Bool) (lv : List Value → List Value) (s : Shared) (σ : L2.St) (H : Hp) (D : GE), B.Ok → GC2 B c fs gd → n + k = B.rows.length →
    (∀ n k s0 s f, n + k = B.rows.length → GSP2 B ip D k f s → SegB B n s0 c (K f) fs s) → GI2 B k ip σ H s → t D k σ H → SegB B n s0 c ((execs st B.L.env).wrap K J gd lv) fs s
section
variable {B : GBd} {st : Stmt} {rest : List Stmt}
theorem GIn.next {k : Nat} {ip : Pins} {σ σ' : L2.St} {H H' : Hp} {M : Pins} {sw s s' : Shared} {ow : Kn} {ipw : List Addr} (g : GIn B k ip σ H M sw ow ipw s)
    (I : Inv (B.L.cx { sw with heap := trn sw.heap B.L.n0 } (gOf B.L.n0 (B.cn ++ ow) ipw sw.heap)) ip σ' H' s') : GI2 B k ip σ' H' s' := ⟨M, sw, ow, ipw, g.wk, g.mM, g.lst, g.fr, g.ipy, g.sz, I⟩
def tPlain2 (t : TS) : TG2 := fun D k σ H => t { nx := D.nx k, rt := fun _ _ => False, bk := D.bk k, ct := D.ct k } σ H
theorem sp_gsp2 {k : Nat} {ip : Pins} {σ : L2.St} {H : Hp} {M : Pins} {sw s s' : Shared} {ow : Kn} {ipw : List Addr} {D : GE} {f : Flow} (g : GIn B k ip σ H M sw ow ipw s)
    (h : SP (B.L.cx { sw with heap := trn sw.heap B.L.n0 } (gOf B.L.n0 (B.cn ++ ow) ipw sw.heap)) ip { nx := D.nx k, rt := fun _ _ => False, bk := D.bk k, ct := D.ct k } f s') : GSP2 B ip D k f s' := by
  cases f with
  | next => obtain ⟨σ', H', I, q⟩ := h; exact ⟨σ', H', g.next I, q⟩
  | brk => obtain ⟨σ', H', I, q⟩ := h; exact ⟨σ', H', g.next I, q⟩
  | cont => obtain ⟨σ', H', I, q⟩ := h; exact ⟨σ', H', g.next I, q⟩
  | ret u => obtain ⟨_, _, _, _, _, q⟩ := h; exact q
theorem gs2_ps {t : TS} (h : ∀ tt G, PS (B.L.cx tt G) st t) : GS2 B st (tPlain2 t) := by
  refine ⟨fun ip n k s0 c fs K J gd lv s σ H D ok gc hn hk hI ht => ?_⟩
  obtain ⟨M, sw, ow, ipw, g⟩ := hI
  refine seg_wrap ?_
  rw [gc.over]
  exact wpAny_mono ((h _ _).run ip s σ H _ g.I ht) (fun f s' hs => hk n k s0 s' f hn (sp_gsp2 g hs)) fun _ _ z => z.elim
def tG20 : TG2 := fun D k σ H => D.nx k σ H
theorem gss2_nil : GSs2 B [] tG20 := by
  refine ⟨fun ip n k s0 c fs K J gd lv s σ H D ok gc hn hk hI ht => ?_⟩
  exact seg_execs_nil (hk n k s0 s .next hn ⟨σ, H, hI, ht⟩)
def tGThen2 (t u : TG2) : TG2 := fun D k σ H => t { D with nx := fun k' σ' H' => u D k' σ' H' } k σ H
theorem gss2_cons {t u : TG2} (a : GS2 B st t) (b : GSs2 B rest u) : GSs2 B (st :: rest) (tGThen2 t u) := by
  refine ⟨fun ip n k s0 c fs K J gd lv s σ H D ok gc hn hk hI ht => ?_⟩
  refine seg_execs_cons ?_
  refine a.run ip n k s0 c fs _ J gd lv s σ H { D with nx := fun k' σ' H' => u D k' σ' H' } ok gc hn (fun n' k' s0' s' f hn' hs => ?_) hI ht
  cases f with
  | next =>
    obtain ⟨σ', H', I', q⟩ := hs
    exact b.run ip n' k' s0' c fs K J gd lv s' σ' H' D ok gc hn' hk I' q
  | brk => exact hk n' k' s0' s' .brk hn' hs
  | cont => exact hk n' k' s0' s' .cont hn' hs
  | ret u => exact hs.elim
theorem gss2_one {t : TG2} (a : GS2 B st t) : GSs2 B [st] (tGThen2 t tG20) := gss2_cons a gss2_nil
/-! ### if -/
def tGIf (c : TT) (ta tb : TG2) : TG2 := fun D k σ H => c σ H fun b H1 => if b = true then ta D k σ H1 else tb D k σ H1
theorem gs2_if {test : Expr} {body orelse : List Stmt} {pos : Pos} {tc : TT} {ta tb : TG2} (hc : ∀ tt G, PT (B.L.cx tt G) test tc) (ha : GSs2 B body ta) (hb : GSs2 B orelse tb) : GS2 B (.If test body orelse pos) (tGIf tc ta tb) := by
  refine ⟨fun ip n k s0 c fs K J gd lv s σ H D ok gc hn hk hI ht => ?_⟩
  obtain ⟨M, sw, ow, ipw, g⟩ := hI
  rw [arm_exec_If]
  refine seg_bind_wrap (wpAny_standAt ?_)
  refine seg_bind_wrap ?_
  rw [gc.over]
  refine wpAny_mono ((hc _ _).run ip s σ H _ g.I ht) (fun b s' hs => ?_) fun _ _ z => z.elim
  obtain ⟨H2, I2, q⟩ := hs
  cases b with
  | true =>
    rw [if_pos rfl] at q ⊢
    exact ha.run ip n k s0 c fs K J gd lv s' σ H2 D ok gc hn hk (g.next I2) q
  | false =>
    rw [if_neg Bool.false_ne_true] at q ⊢
    exact hb.run ip n k s0 c fs K J gd lv s' σ H2 D ok gc hn hk (g.next I2) q
/-! ### yield -/
/-- a new tuple is handed out; the lists at ow go on, all else that the generator knows is forgotten -/
def tGYield2 (B : GBd) (te : TE) : TG2 := fun D k σ H => k < B.rows.length ∧ te σ H fun x H1 => ∃ row p ow, B.rows[k]? = some row ∧ x = .ref p ∧ H1 p = some (.tup row) ∧ B.cn.lookup p = none ∧ Knows B.cn H1 ∧ Owns B.cn ow H1 ∧
  ∀ H2, Knows B.cn H2 → (∀ q ∈ ow, (B.cn ++ ow).lookup q.1 = some q.2 → H2 q.1 = some q.2) → D.nx (k + 1) σ H2
theorem gs2_yield {e : Expr} {yp pos : Pos} {te : TE} (he : ∀ tt G, PE (B.L.cx tt G) e te) (hco : B.L.env.scope.isCoroutine = false) (hi : interactive B.L.env = false) : GS2 B (.Expr (.Yield (some e) yp) pos) (tGYield2 B te) := by
  refine ⟨fun ip n k s0 c fs K J gd lv s σ H D ok gc hn hk hI ht => ?_⟩
  obtain ⟨M, sw, ow0, ipw, g⟩ := hI
  obtain ⟨hlt, ht⟩ := ht
  · obtain ⟨n, rfl⟩ : ∃ m, n = m + 1 := ⟨n - 1, by omega⟩
    refine seg_Expr_Yield gc.split gc.gd gc.guard ?_ hco hi
    rw [gc.over]
    refine wpAny_mono ((he _ _).run ip s σ H _ g.I ht) (fun v s' hv => ?_) fun _ _ z => z.elim
    obtain ⟨x, H1, I1, rv, row, p, ow, hrow, rfl, hp, hpc, hkn, how, q⟩ := hv
    obtain rfl : v = Value.ref p := rv
    have g1 : GIn B k ip σ H1 M sw ow0 ipw s' := ⟨g.wk, g.mM, g.lst, g.fr, g.ipy, g.sz, I1⟩
    have stp := g1.step ok hkn how (fp := fpOf B ip ow) fun b hb => by
      rcases List.mem_cons.mp hb with z | z
      · exact .inl z
      · exact .inr (List.mem_append.mp z)
    intro kap hkap
    refine ⟨pinsAt (fpOf B ip ow) s'.heap, k, hn, ?_, fun s2 hw => hkap .none s2 ?_⟩
    · obtain ⟨hz, its, ri, hI⟩ := I1.hok p _ hp
      refine ok.cons.item k M _ row p sw s' hrow g.wk stp ?_ hz ⟨its, ri, hI⟩ fun z => ?_
      · by_cases hm : p ∈ adr M
        · exact .inl hm
        · cases z : sw.heap.get? p with
          | none => exact .inr rfl
          | some ob =>
            exfalso
            have G0 : (B.cn ++ ow0).lookup p = none := by
              cases q : (B.cn ++ ow0).lookup p with
              | none => rfl
              | some u =>
                rcases look_app q with z | ⟨_, z⟩
                · rw [hpc] at z; cases z
                · exact absurd ((g.mM p).mpr (.inr (.inr (List.mem_map.mpr ⟨(p, u), mem_look z, rfl⟩)))) hm
            by_cases hl : B.L.n0 < p
            · have y := I1.base.frzs p ob _ (gOf_frz G0 hl (fun z => hm ((g.mM p).mpr (.inr (.inl z)))) z)
              rw [hp] at y; cases y
            · have hne : p ≠ B.L.n0 := fun z => hm ((g.mM p).mpr (.inl z))
              have hl2 : p < B.L.n0 := Nat.lt_of_le_of_ne (Nat.le_of_not_lt hl) hne
              have y := I1.base.free p ob (by show (trn sw.heap B.L.n0).get? p = _; rw [trn_get hl2]; exact z) (gOf_old G0 hl) (by simp [Pl.cx])
              rw [hp] at y; cases y
      · obtain ⟨q, hq, e⟩ := List.mem_map.mp z
        have y := (of_pinsAt hq).1
        rw [e] at y
        rcases List.mem_cons.mp y with z | z
        · have f0 : H1 B.L.n0 = none := I1.free
          rw [← z, hp] at f0; cases f0
        · rcases List.mem_append.mp z with z | z
          · obtain ⟨r, hr, e2⟩ := List.mem_map.mp z
            have := (I1.pin r (List.mem_append_right _ hr)).2.1
            rw [e2, hp] at this; cases this
          · obtain ⟨r, hr, e2⟩ := List.mem_map.mp z
            obtain ⟨⟨xs, e3⟩, e4, _⟩ := how r hr
            rw [e2, hp, e3] at e4; cases e4
    · have w := g1.woken ok hkn how hw
      refine hk n (k + 1) s2 s2 .next (by omega) ⟨σ, _, w, q _ (fun b u e => gOf_kn (look_app1 e)) fun r _ e => gOf_kn e⟩
end
end GnX
namespace GnX
open PySem PySem.Spec PyProof.Rows L2 GenW
/-! ### for, in a generator -/
section
variable {prog : Program} {w : World} {A : Around} {R : GenEnd} {Y : Protocol} {n : Nat} {s0 : Shared} {fs : List Frame} {s : Shared} {env : Env}
theorem seg_forTurn {target : Expr} {it : Value} {body : List Stmt}
    (h : wpAny (model prog w) (A.over (.forLoop target it body [] env) fs) (pyNext it) (fun r s1 => match r with
      | none => Seg (model prog w) A R Y n s0 (.block [] env) ((model prog w).den (.block [] env)) fs s1
      | some v => wpAny (model prog w) (A.over (.forLoop target it body [] env) fs) (letOwnedTupleGo target it v) (fun _ s2 =>
          wpAny (model prog w) (A.over (.forLoop target it body [] env) fs) (assign target env v) (fun _ s3 => Seg (model prog w) A R Y n s0 (.forLoop target it body [] env) ((execs body env).wrap (fun f => match f with
            | .next | .cont => .pure (.again (.forLoop target it body [] env))
            | .brk => .pure (.done .next)
            | .ret v => .pure (.done (.ret v))) (fun e => (do noteFrame e env; theTreesLotGoes e : Sem Unit).wrap (fun _ => .raise e) .raise id id) id id) fs s3) (fun _ _ => False) s2) (fun _ _ => False) s1) (fun _ _ => False) s) :
    Seg (model prog w) A R Y n s0 (.forLoop target it body [] env) ((model prog w).den (.forLoop target it body [] env)) fs s := by
  show Seg _ A R Y n s0 _ ((forTurn target it body [] env).onRaise (fun x => do noteFrame x env; theTreesLotGoes x)) fs s
  unfold forTurn
  rw [Sem.onRaise_eq_wrap]
  refine seg_bind_wrap (wpAny_standAt ?_)
  refine seg_bind_wrap (wpAny_onRaise (wpAny_mono h (fun r s1 hr => ?_) fun _ _ z => z.elim))
  cases r with
  | none => exact seg_again rfl hr
  | some v =>
    refine seg_bind_wrap (wpAny_mono hr (fun _ s2 h2 => ?_) fun _ _ z => z.elim)
    refine seg_bind_wrap (wpAny_mono h2 (fun _ s3 h3 => ?_) fun _ _ z => z.elim)
    rw [Sem.bind_eq_wrap', Sem.wrap_wrap]
    rw [Sem.wrap_congr (execs body env) _ _ (K' := fun f => match f with
            | .next | .cont => .pure (.again (.forLoop target it body [] env))
            | .brk => .pure (.done .next)
            | .ret v => .pure (.done (.ret v))) (H' := (fun e => (do noteFrame e env; theTreesLotGoes e : Sem Unit).wrap (fun _ => .raise e) .raise id id))
        (fun f => by cases f <;> rfl)
        (fun e => by first | exact Sem.bind_eq_wrap _ _ | (show (do noteFrame e env; theTreesLotGoes e : Sem Unit).bind (fun _ => .raise e) = _; rw [Sem.bind_eq_wrap]))]
    exact h3
end
def tGFor2 (wi : TI) (g : L2.TG) (tb : TG2) : TG2 := fun D k σ H => wi σ H fun J H1 => ∃ W : Nat → Nat → Nat → L2.St → Hp → Prop, (∃ m, W 0 m k σ H1) ∧ ∀ i m k σ H, W i m k σ H →
  (J.stop i H ∧ D.nx k σ H) ∨ (J.go i H ∧ ∃ N : Nat → L2.St → Hp → Prop, (∀ k' σ' H', N k' σ' H' → ∃ m', m' < m ∧ W (i + 1) m' k' σ' H') ∧ ∀ x H', J.yld i H x H' → g x σ H' fun σ2 H2 => tb { nx := N, bk := D.nx, ct := N } k σ2 H2)
section
variable {B : GBd}
theorem gc2_loop {c c' : Code} {fs : List Frame} {gd : Bool → Bool} {k : Result → Sem PySem.Fin} {l kp : List Value} {p : Pos} (g : GC2 B c fs gd) (hw : c'.weight = 0) (hu : c'.cUnits = 0) : GC2 B c' (.ret k none (gd false) l c p kp :: fs) id where
  over := (over_loop hw hu).trans g.over
  split := by
    show (splitAtGen fs).map _ = none
    rw [g.split]; rfl
  guard := by
    show (gd false || fs.any Frame.guarded) = false
    rw [g.gd, g.guard]; rfl
  gd := rfl
theorem gs2_for {tg iter : Expr} {body : List Stmt} {pos : Pos} {wi : TI} {g : L2.TG} {tb : TG2} (hi : ∀ tt G, PI (B.L.cx tt G) tg iter wi) (hg : ∀ tt G, PG (B.L.cx tt G) tg g) (hb : GSs2 B body tb)
    (hs : ∀ x, foldedSetIterable iter B.L.env x = pure x) : GS2 B (.For tg iter body [] pos) (tGFor2 wi g tb) := by
  refine ⟨fun ip n k s0 c fs K J gd lv s σ H D ok gc hn hk hI ht => ?_⟩
  obtain ⟨M, sw, ow, ipw, g0⟩ := hI
  rw [arm_exec_For]
  refine seg_bind_wrap (wpAny_standAt ?_)
  refine seg_bind_wrap ?_
  rw [gc.over]
  refine wpAny_mono ((hi _ _).run ip s σ H _ g0.I ht) (fun v s1 h1 => ?_) fun _ _ z => z.elim
  refine seg_bind_wrap ?_
  rw [hs v]
  refine wpAny_pure (seg_bind_wrap (wpAny_standAt (seg_bind_wrap (wpAny_holding ?_))))
  rw [gc.over]
  refine wpAny_mono h1 (fun itv s2 h2 => ?_) fun _ _ z => z.elim
  obtain ⟨it, fp, tn, JJ, H2, rfl, I2, T, st2, f2, W, ⟨m0, w0⟩, turn⟩ := h2
  refine seg_call fun p => ?_
  have gl := fun (kk : Result → Sem PySem.Fin) => gc2_loop (k := kk) (c' := .forLoop tg (.ref it) body [] B.L.env) (l := lv []) (kp := []) (p := p) gc rfl rfl
  have fy : ∀ b ∈ fp, B.L.n0 ≤ b := fun b hb => by
    rcases (f2 b hb).2.2.2.1 with z | z
    · exact absurd z (by simp [Pl.cx])
    · have hz : (trn sw.heap B.L.n0).objs.size ≤ b := z
      rw [trn_size g0.sz] at hz
      exact hz
  have stat : ∀ (tt : Shared) (G : Hp) {H' : Hp}, tt.heap.objs.size = B.L.n0 → (∀ b ∈ fp, H' b = none) → ∀ b ∈ fp, FpOk (B.L.cx tt G) ip H' b := fun tt G H' hz hn b hb =>
    ⟨hn b hb, (f2 b hb).2.1, (f2 b hb).2.2.1, .inr (by show tt.heap.objs.size ≤ b; rw [hz]; exact fy b hb), fun x c e => (ok.pl.cells e).elim, (f2 b hb).2.2.2.2.2⟩
  have unpin : ∀ {k' : Nat} {σ' : L2.St} {H' : Hp} {s' : Shared} {pl : Pins}, GI2 B k' (ip ++ pl) σ' H' s' → GI2 B k' ip σ' H' s' := fun {k' σ' H' s' pl} x => by
    obtain ⟨M, sw, ow, ipw, g⟩ := x
    exact ⟨M, sw, ow, ipw, g.wk, g.mM, g.lst, g.fr, fun p hp => g.ipy p (List.mem_append_left _ hp), g.sz, g.I.unpinned⟩
  have loop : ∀ (m i n k : Nat) (s0 s : Shared) (σ : L2.St) (H : Hp), n + k = B.rows.length → W i m k σ H → GI2 B k ip σ H s → tn i s.heap → (∀ b ∈ fp, H b = none) →
      SegB B n s0 (.forLoop tg (.ref it) body [] B.L.env) ((model B.L.P B.L.w).den (.forLoop tg (.ref it) body [] B.L.env))
        (.ret (fun r => ((match r with | .ok f => (.pure f : Sem Flow) | .error e => .raise e).onRaise (cameBack B.L.env)).wrap K J gd lv) none (gd false) (lv []) c p [] :: fs) s := by
    intro m
    induction m using Nat.strongRecOn with
    | ind m ih =>
      intro i n k s0 s σ H hn w hI st fr
      obtain ⟨M, sw, ow, ipw, g⟩ := hI
      have hsz : (trn sw.heap B.L.n0).objs.size = B.L.n0 := trn_size g.sz
      refine seg_forTurn ?_
      rw [(gl _).over]
      rcases turn i m k σ H w with ⟨stop, qn⟩ | ⟨go, Nx, hN, step⟩
      · refine wpAny_mono (T.done (B.L.cx { sw with heap := trn sw.heap B.L.n0 } (gOf B.L.n0 (B.cn ++ ow) ipw sw.heap)) rfl rfl rfl rfl i ip s σ H (fun _ _ => False) g.I (stat { sw with heap := trn sw.heap B.L.n0 } (gOf B.L.n0 (B.cn ++ ow) ipw sw.heap) hsz fr) st stop) (fun r s4 hr => ?_) fun _ _ z => z
        obtain ⟨rfl, I4⟩ := hr
        exact seg_leaf (.ok .next) (hk n k s0 s4 .next hn ⟨σ, H, g.next I4, qn⟩)
      · refine wpAny_mono (T.item (B.L.cx { sw with heap := trn sw.heap B.L.n0 } (gOf B.L.n0 (B.cn ++ ow) ipw sw.heap)) rfl rfl rfl rfl i ip s σ H (fun _ _ => False) g.I (stat { sw with heap := trn sw.heap B.L.n0 } (gOf B.L.n0 (B.cn ++ ow) ipw sw.heap) hsz fr) st go) (fun r s4 hr => ?_) fun _ _ z => z
        obtain ⟨u, rfl, h4⟩ := hr
        refine wpAny_mono h4 (fun _ s5 h5 => ?_) fun _ _ z => z
        obtain ⟨x, H5, I5, r5, y5, st5, fr5⟩ := h5
        have I5' := I5.pinned (stat { sw with heap := trn sw.heap B.L.n0 } (gOf B.L.n0 (B.cn ++ ow) ipw sw.heap) hsz fr5) (T.obj _ _ st5)
        refine wpAny_mono ((hg { sw with heap := trn sw.heap B.L.n0 } (gOf B.L.n0 (B.cn ++ ow) ipw sw.heap)).run _ s5 σ H5 x u _ I5' r5 (step x H5 y5)) (fun _ s6 h6 => ?_) fun _ _ z => z.elim
        obtain ⟨σ6, H6, I6, q6⟩ := h6
        refine hb.run (ip ++ pinsAt fp s5.heap) n k s0 _ _ _ _ id id s6 σ6 H6 { nx := Nx, bk := D.nx, ct := Nx } ok (gl _) hn (fun n' k' s0' s7 f hn' hs => ?_) ⟨M, sw, ow, ipw, g.wk, g.mM, g.lst, g.fr, fun q hq => ?_, g.sz, I6⟩ q6
        · have again : ∀ {σ7 : L2.St} {H7 : Hp}, GI2 B k' (ip ++ pinsAt fp s5.heap) σ7 H7 s7 → Nx k' σ7 H7 → SegB B n' s0' (.forLoop tg (.ref it) body [] B.L.env) (.pure (.again (.forLoop tg (.ref it) body [] B.L.env)))
              (.ret (fun r => ((match r with | .ok f => (.pure f : Sem Flow) | .error e => .raise e).onRaise (cameBack B.L.env)).wrap K J gd lv) none (gd false) (lv []) c p [] :: fs) s7 := fun {σ7 H7} I7 n7 => by
            obtain ⟨m', hm, w7⟩ := hN k' σ7 H7 n7
            obtain ⟨M7, sw7, ow7, ipw7, g7⟩ := id I7
            have pin7 : ∀ b ∈ fp, ∀ o, s5.heap.get? b = some o → s7.heap.get? b = some o ∧ H7 b = none := fun b hb o e =>
              let z := g7.I.pin (b, o) (List.mem_append_right _ (List.mem_append_right _ (mem_pinsAt hb e)))
              ⟨z.1, z.2.1⟩
            refine seg_again rfl (ih m' hm (i + 1) n' k' s0' s7 σ7 H7 hn' w7 (unpin I7) (T.keep _ _ _ st5 fun b hb o e => (pin7 b hb o e).1) fun b hb => ?_)
            obtain ⟨o, e, _⟩ := T.obj _ _ st5 b hb
            exact (pin7 b hb o e).2
          cases f with
          | next => obtain ⟨σ7, H7, I7, n7⟩ := hs; exact again I7 n7
          | cont => obtain ⟨σ7, H7, I7, n7⟩ := hs; exact again I7 n7
          | brk => obtain ⟨σ7, H7, I7, q7⟩ := hs; exact seg_leaf (.ok .next) (hk n' k' s0' s7 .next hn' ⟨σ7, H7, unpin I7, q7⟩)
          | ret u => exact hs.elim
        · rcases List.mem_append.mp hq with z | z
          · exact g.ipy q z
          · exact fy q.1 (of_pinsAt z).1
  exact loop m0 0 n k s0 s2 σ H2 hn w0 (g0.next I2) st2 fun b hb => (f2 b hb).1
end
end GnX
namespace GnX
open PySem PySem.Spec PyProof.Rows L2 GenW
/-! ### the call of a generator def -/
abbrev SpGn := List V → Hp → Kn → List (List V) → Prop
/-- a generator that has not begun: rows is what it will hand out, cn what it reads of its caller's things -/
structure GNew (P : Program) (w : World) (base : Heap) (k : Nat) (outer : List Env) (cn : Kn) (rows : List (List V)) (H : Hp) (s : Shared) (a : Addr) (g : Nat) (c : Code) (s' : Shared) : Prop where
  lt0 : s.heap.objs.size < a
  lta : a < s'.heap.objs.size
  gen : s'.heap.IsGen a g
  st : s'.gens[g]? = some (.fresh c)
  os : s'.os = s.os
  bare : AllBare s'.gens
  kept : ∀ b o, s.heap.get? b = some o → s'.heap.get? b = some o
  fr : ∃ o, s'.heap.get? s.heap.objs.size = some o ∧ ∀ v, o.data ≠ .cell v
  clo : Clo cn
  knows : Knows cn H
  go : ∀ (A : Around) (WK : Nat → Pins → Shared → Prop) (CY : Nat → Pins → Value → Shared → Prop) (CE : Shared → Prop), Room k A → A.frames = some outer → Cons P w base outer cn rows WK CY CE →
    ∀ s2, WK 0 (pinsAt [s.heap.objs.size] s'.heap) s2 → Seg (model P w) A (RP CE) (YP WK CY rows.length) rows.length s2 c ((model P w).den c) [] s2
structure GFact (P : Program) (w : World) (K : PySem.W.Frag) (mg : Str → Option Value) (base : Heap) (k : Nat) (f : Addr) (fd : FuncData) (ps : List Str) (sp : SpGn) : Prop where
  len : ∀ vs H cn rows, sp vs H cn rows → vs.length = ps.length
  run : ∀ (A : Around) (outer : List Env) (s : Shared) (H : Hp) (args : Args) (us : List Value) (vs : List V) (cn : Kn) (rows : List (List V)), Room k A → Env0 P w K mg base A outer s H → BindsTo s fd args (ps.zip us) → Vals vs us → sp vs H cn rows →
    codeAny (model P w) A (.call (.ref f) args) (fun r s' => match r with | .ok (.ret u) => ∃ a g c, u = .ref a ∧ GNew P w base k outer cn rows H s a g c s' | _ => False) s
def plOf (P : Program) (w : World) (K : PySem.W.Frag) (mg : Str → Option Value) (base : Heap) (N : List Str) (qual : Str) (scope : Scope) (f : Addr) (cd : Value) (A : Around) (outer : List Env) (n0 : Nat) : Pl := ⟨P, w, K, mg, base, N, qual, scope, f, cd, A, outer, n0⟩
theorem gfact_of {P : Program} {w : World} {K : PySem.W.Frag} {mg : Str → Option Value} {base : Heap} {k : Nat} {f : Addr} {name qual : Str} {params : Arguments} {body : List Stmt} {scope : Scope} {dV kV doc pm cdv ct oc : Value} {an od : Option Addr}
    {osl : Array (Option Value)} {N ps : List Str} {sp : SpGn} (lk : K.lookup f = some ⟨oc, od, .func (PySem.W.fnOf name qual params body scope dV kV doc pm an cdv ct), osl⟩) (hcd : PySem.W.codeIn K cdv qual = true) (S : GScope N ps scope)
    (nocell : ∀ y ∈ scope.names, y.2 ≠ .cell ∧ y.2 ≠ .free) (len : ∀ vs H cn rows, sp vs H cn rows → vs.length = ps.length) (hcn : ∀ vs H cn rows, sp vs H cn rows → Clo cn ∧ Knows cn H)
    (hbody : ∀ (A : Around) (outer : List Env) (n0 : Nat) (H : Hp) (vs : List V) (cn : Kn) (rows : List (List V)) (WK : Nat → Pins → Shared → Prop) (CY : Nat → Pins → Value → Shared → Prop) (CE : Shared → Prop), Room k (A.deeper (envOfC qual scope n0 f cdv)) → sp vs H cn rows →
      ∃ t, GSs2 ⟨plOf P w K mg base N qual scope f cdv A outer n0, cn, rows, WK, CY, CE⟩ body t ∧ ∀ H0, Knows cn H0 → t { nx := fun j _ H' => j = rows.length ∧ Knows cn H' } 0 (start N vs) H0) :
    GFact P w K mg base (k + 1) f (PySem.W.fnOf name qual params body scope dV kV doc pm an cdv ct) ps sp := by
  refine ⟨len, fun A outer s H args us vs cn rows hr e0 hb r hsp => ?_⟩
  have hl := len _ _ _ _ hsp
  obtain ⟨hclo, hkn⟩ := hcn _ _ _ _ hsp
  have KX : K.In s.heap := e0.mod.kin.keeps fun b o e => (e0.bs b o e).1
  have lim : s.heap.NoLimit := e0.mod.nolimit.keeps fun b o e => (e0.bs b o e).1
  have hkind : ∀ y ∈ ps.zip us, scope.names.lookup y.1 = some .local ∨ (scope.names.lookup y.1 = some .cell ∧ ((cellsFrom (s.heap.objs.size + 1) scope.names []).lookup y.1).isSome = true) := fun ⟨n, v⟩ hy => by
    rcases S.par n (List.of_mem_zip hy).1 with q | q
    · exact .inl q
    · exact .inr ⟨q, PySem.W.cellsFrom_some _ _ _ (.inl q)⟩
  refine codeAny_call_generator hr.depth (KX _ _ lk) rfl S.co S.gen rfl (PySem.W.codeRec_of KX hcd) (hb _ _ _ _ ?_)
  refine wpAny_newFunctionEnv_cells S.kind hkind fun env he s1 x => ?_
  subst he
  have lim1 : s1.heap.NoLimit := lim.keeps x.toInCall.keep
  refine ⟨lim1, ?_⟩
  have I1 : Inv (gcxOf P w K mg base N qual scope f cdv A outer s H (fun _ _ _ => False) []) [] (start N vs) H s1 := inv_startG S hr.hd e0 hl r x
  obtain ⟨h1, tk, es1, hk1⟩ := x.done
  have gen1 : s1.gens = s.gens := by rw [es1]
  have lt1 : s.heap.objs.size < s1.heap.objs.size := x.toInCall.ns.lt
  have main : ∀ (go : Obj) (nm qn : Value) (tk2 : Nat), go.cls = .type "generator" → go.data = .fields #[.int s1.gens.size 0, nm, qn] → go.slots = #[] → (∀ h : Heap, (h.push go).get? h.objs.size = some go) →
      ∃ a g c, Value.ref s1.heap.objs.size = .ref a ∧ GNew P w base (k + 1) outer cn rows H s a g c { s1 with gens := s1.gens.push (.fresh (.func body (envOfC qual scope s.heap.objs.size f cdv))), toks := tk2, heap := s1.heap.push go } := by
    intro go nm qn tk2 hgc hgd hgs hgp
    obtain ⟨m, ⟨o0, es, ep, ho, hd, hrr⟩, hlk⟩ := I1.loc
    have ho : s1.heap.get? s.heap.objs.size = some o0 := ho
    have ho' : (s1.heap.push go).get? s.heap.objs.size = some o0 := Heap.get?_push_of_some _ ho
    refine ⟨s1.heap.objs.size, s1.gens.size, _, rfl, lt1, ?_, ⟨go, nm, qn, hgp _, hgc, hgd, hgs⟩, Array.getElem?_push_size .., by rw [es1], AllBare.push (by rw [gen1]; exact e0.bare) rfl, fun b o e => Heap.get?_push_of_some _ (x.toInCall.keep b o e), ⟨o0, ho', fun v z => by rw [hd] at z; cases z⟩, hclo, hkn, ?_⟩
    · show _ < (s1.heap.push _).objs.size
      rw [Heap.size_push]; exact Nat.lt_succ_self _
    intro Aw WK CY CE hrw hfr hcons s2 hwk
    have hN := hcons.need _ _ _ hwk
    obtain ⟨t, ht, hq⟩ := hbody Aw outer s.heap.objs.size H vs cn rows WK CY CE (hrw.deeper _) hsp
    have plok : (plOf P w K mg base N qual scope f cdv Aw outer s.heap.objs.size).Ok := by
      refine ⟨e0.mod, S.kind, nocell, hrw.hd, hfr, e0.bsz, fun b hb => ?_⟩
      obtain ⟨_, o, ho, _⟩ := e0.funs.mem hb
      exact Heap.lt_size ho
    have ok : (⟨plOf P w K mg base N qual scope f cdv Aw outer s.heap.objs.size, cn, rows, WK, CY, CE⟩ : GBd).Ok := ⟨plok, hclo, hcons⟩
    have ho2 : s2.heap.get? s.heap.objs.size = some o0 := hN.pin (s.heap.objs.size, o0) (mem_pinsAt (h := s1.heap.push go) List.mem_cons_self ho')
    have R : Rest (plOf P w K mg base N qual scope f cdv Aw outer s.heap.objs.size) (cn ++ []) [] (start N vs) s2 := by
      rw [List.append_nil]
      refine ⟨hN.bare, hN.bs, hN.funs, ⟨m, ⟨o0, es, ep, ho2, hd, hrr⟩, fun i y v e1 e2 e3 => ?_⟩, hN.cn, fun b u e => ?_, fun p hp => absurd hp (by simp), I1.len⟩
      · obtain ⟨u, ru, l⟩ := hlk i y v e1 e2 e3
        refine ⟨u, ru, ?_⟩
        rcases l with l | ⟨_, c, e, _⟩
        · exact .inl l
        · exact (plok.cells e).elim
      · have e1 := hkn b u e
        refine ⟨?_, fun z => ?_, fun z => ?_, fun z => absurd z (by simp)⟩
        · cases q : base.get? b with
          | none => exact q
          | some ob =>
            have := (e0.bs b ob q).2
            rw [e1] at this; cases this
        · have := e0.frf b z
          rw [e1] at this; cases this
        · have z : b = s.heap.objs.size := z
          have := e0.hok.fresh (Nat.le_of_eq z.symm)
          rw [e1] at this; cases this
    have g0 : GI2 ⟨plOf P w K mg base N qual scope f cdv Aw outer s.heap.objs.size, cn, rows, WK, CY, CE⟩ 0 [] (start N vs) (gOf s.heap.objs.size (cn ++ []) [] s2.heap) s2 := by
      refine ⟨_, s2, [], [], hwk, fun b => ?_, fun q hq => absurd hq (by simp), fun b hb => ?_, fun p hp => absurd hp (by simp), Nat.le_of_lt (Heap.lt_size ho2), rebase plok R (by rw [List.append_nil]; exact hclo)⟩
      · refine ⟨fun hb => ?_, fun hb => ?_⟩
        · obtain ⟨p, hp, e⟩ := List.mem_map.mp hb
          have y := (of_pinsAt hp).1
          rw [e] at y
          exact .inl (List.mem_singleton.mp y)
        · rcases hb with z | z | z
          · exact List.mem_map.mpr ⟨(s.heap.objs.size, o0), mem_pinsAt (h := s1.heap.push go) List.mem_cons_self ho', z.symm⟩
          · exact absurd z (by simp)
          · exact absurd z (by simp)
      · cases q : (cn ++ []).lookup b with
        | none => rfl
        | some u => exact absurd hb (R.knA b u q).2.1
    refine seg_func ?_
    refine ht.run [] rows.length 0 s2 _ [] _ _ id id s2 (start N vs) _ _ ok ⟨over_func, rfl, rfl, rfl⟩ (Nat.add_zero _) (fun n j s0 s' fl hn hs => ?_) g0 (hq _ fun b u e => gOf_kn (look_app1 e))
    cases fl with
    | next =>
      obtain ⟨σ', H', ⟨M, sw, ow, ipw, g⟩, hj, hk'⟩ := hs
      subst hj
      have stp := g.step ok hk' (ow' := []) (fun q hq => absurd hq (by simp)) (fp := []) fun b hb => absurd hb (by simp)
      exact seg_end (.ok (.ret .none)) (.inl ⟨.inl rfl, hcons.done M sw s' g.wk stp⟩)
    | brk => obtain ⟨_, _, _, q⟩ := hs; exact q.elim
    | cont => obtain ⟨_, _, _, q⟩ := hs; exact q.elim
    | ret u => exact hs.elim
  exact main _ _ _ _ rfl rfl rfl fun h => Heap.get?_push_size _ rfl
/-- an expression whose value is such a generator -/
abbrev TGn2 := L2.St → Hp → (Kn → List (List V) → Hp → Prop) → Prop
structure PGn (X : Cx) (k : Nat) (e : Expr) (tg : TGn2) : Prop where
  run : ∀ (pins : Pins) (s : Shared) (σ : L2.St) (H : Hp) (Q : Kn → List (List V) → Hp → Prop), Inv X pins σ H s → tg σ H Q → wpAny (model X.prog X.w) X.A (eval e X.env)
    (fun u s' => ∃ cn rows a g c H1 sc, u = .ref a ∧ Inv X pins σ H1 sc ∧ GNew X.prog X.w X.base k X.stack cn rows H1 sc a g c s' ∧ Q cn rows H1) X.xe s
def tCallGn (sp : SpGn) (dvs : List V) (t : TA) : TGn2 := fun σ H Q => t σ H fun vs H1 => ∃ cn rows, sp (vs ++ dvs) H1 cn rows ∧ Q cn rows H1
section
variable {X : Cx} {k : Nat} {f : Addr} {fd : FuncData} {ps : List Str} {sp : SpGn} {dvs : List V} {ds : List Value} {x : Str} {p pos : Pos}
theorem pgn_call {e : Expr} {es : List Expr} {t : TA} (F : GFact X.prog X.w X.K X.mg X.base k f fd ps sp) (hr : Room k X.A) (hg : Gl X x) (hm : X.mg x = some (.ref f)) (hk : PySem.W.keepIn X.K (.ref f) = true) (hb : Binds X.K fd ps ds) (hd : Vals dvs ds)
    (ha : PA X (e :: es) t) (hdb : (x == ("__debug__" : Str)) = false := by decide) (he : starEach (e :: es) X.env = (false, eval e X.env) :: starEach es X.env := by rfl) (hpl : (backTo pos (starEach es X.env)).any (·.1) = false := by rfl) :
    PGn X k (.Call (.Name x p) (e :: es) [] pos) (tCallGn sp dvs t) := by
  refine ⟨fun pins s σ H Q I h => ?_⟩
  refine wpAny_Call_Name_kw (ld_glob I hg hm ?_ hdb)
  refine PySem.W.callWith_K (h₀ := X.base) I.ok.mod.kin hk (thn (ha.run pos pins s σ H _ I h) fun us s1 ⟨vs, H1, I1, r, cn, rows, hs, q⟩ => ⟨I1.kIn, ?_⟩) he hpl
  have r2 : Vals (vs ++ dvs) (us ++ ds) := r.append hd
  have hl2 : (us ++ ds).length = ps.length := by rw [← r2.length]; exact F.len _ _ _ _ hs
  refine wpAny_call (codeAny_mono (F.run X.A X.stack s1 H1 ⟨us, []⟩ (us ++ ds) (vs ++ dvs) cn rows hr I1.env0 (hb s1 us I1.kIn hl2) r2 hs) fun r s' hq => ?_)
  cases r with
  | error e => exact False.elim hq
  | ok fl =>
    cases fl with
    | ret u =>
      obtain ⟨a, g, c, e, hn⟩ := hq
      exact ⟨cn, rows, a, g, c, H1, s1, e, I1, hn, q⟩
    | next => exact False.elim hq
    | brk => exact False.elim hq
    | cont => exact False.elim hq
end
end GnX
namespace GnX
open PySem PySem.Spec PyProof.Rows L2 GenW
open Sem (wp)
/-! ### next(g), the sleeper told as it is -/
theorem resume_sl {α : Type} {M : Model} {A : Around} {R : GenEnd} {Y : Protocol} {n g : Nat} {gs : GenState} {r : Resume} {l : List Value} {k : GenResult → Sem α} {Q : α → Shared → Prop} {E : Value → Shared → Prop} {s : Shared}
    (at0 : s.gens[g]? = some gs) (go : gs.Goes M A R Y n r (s.setGen g .running))
    (ends : ∀ x s1, R n (s.setGen g .running) x s1 → wpAny M A (k (End.ret x).result) Q E (s1.setGen g .finished))
    (item : ∀ v s1 k' l' c' p' fs', Y (n - 1) (s.setGen g .running) v s1 (fun r' s'' => match n with | 0 => False | m + 1 => Seg M A R Y m s'' c' (k' r') fs' s'') →
      wpAny M A (k (.yielded v)) Q E (s1.setGen g (.suspended k' l' c' p' fs' false))) : wpAny M A (.resume g r l k) Q E s := by
  intro Γ p inA
  rw [Sem.wp_resume]
  have out : ∀ e1 s1, SegEnd R Y n (Seg.next M A R Y n) (s.setGen g .running) e1 s1 → e1.quiet = true ∧ wp M Γ (k e1.result) (fun a _ s' => Q a s') (fun e _ s' => E e s') p (s1.setGen g e1.genState) := by
    intro e1 s1 z
    cases e1 with
    | ret x => exact ⟨rfl, ends x s1 z Γ p inA⟩
    | susp v g1 l1 k1 c1 p1 fs1 =>
      obtain ⟨qt, y⟩ := z
      have cl : (g1 || fs1.any Frame.guarded) = false := by
        have := qt
        unfold End.quiet at this
        simpa using this
      refine ⟨qt, ?_⟩
      show wp M Γ (k (.yielded v)) _ _ p (s1.setGen g (.suspended k1 l1 c1 p1 fs1 (g1 || fs1.any Frame.guarded)))
      rw [cl]
      refine item v s1 k1 l1 c1 p1 fs1 ?_ Γ p inA
      cases n with
      | zero => exact y
      | succ m => exact y
  have wk := fun c' => inA.wake c' p
  cases gs with
  | fresh c =>
    obtain ⟨rfl, sg⟩ := go
    obtain ⟨e1, s1, run, z⟩ := seg_iff.mp sg (Γ.wake c p) p rfl (wk c)
    obtain ⟨qt, z⟩ := out e1 s1 z
    refine ⟨e1.result, _, ?_, z⟩
    unfold Wakes
    rw [at0]
    exact ⟨e1, s1, run, qt, rfl, rfl⟩
  | suspended k0 l0 c0 p0 fs0 cl =>
    obtain ⟨e1, s1, run, z⟩ := seg_iff.mp go (Γ.wake c0 p) p0 rfl (wk c0)
    obtain ⟨qt, z⟩ := out e1 s1 z
    refine ⟨e1.result, _, ?_, z⟩
    unfold Wakes
    rw [at0]
    exact ⟨e1, s1, run, qt, rfl, rfl⟩
  | running => exact go.elim
  | finished => exact go.elim
section
variable {P : Program} {w : World} {A : Around} {E : Value → Shared → Prop} {s : Shared}
theorem next_sl {a g n : Nat} {gs : GenState} {CE : Shared → Prop} {Y : Protocol} {Q : Option Value → Shared → Prop} (calm : A.handled = none) (lim : s.heap.NoLimit) (deep : A.depth < recursionLimit) (isg : s.heap.IsGen a g) (at0 : s.gens[g]? = some gs)
    (go : gs.Goes (model P w) A.in1 (RP CE) Y n (.send .none) (s.setGen g .running))
    (item : ∀ v s1 k' l' c' p' fs', Y (n - 1) (s.setGen g .running) v s1 (fun r' s'' => match n with | 0 => False | m + 1 => Seg (model P w) A.in1 (RP CE) Y m s'' c' (k' r') fs' s'') → Q (some v) (s1.setGen g (.suspended k' l' c' p' fs' false)))
    (ends : ∀ s1, CE s1 → ∀ h', (∀ b o, s1.heap.get? b = some o → h'.get? b = some o) → Q none { s1.setGen g .finished with heap := h' }) : wpAny (model P w) A (pyNext (.ref a)) Q E s := by
  unfold pyNext
  refine wpAny_bind (wpAny_attempt ?_)
  refine wpAny_callSpecial?_slot (name := Str.ofString "__next__") isg.typeIs slot_gen_next ?_
  refine wpAny_call_entry slot_gen_next isg.typeIs entry_gen_next ?_ (args_gen_next _)
  show wpAny _ A.in1 (Builtin.Generator.genWake (.ref a) (.send .none)) _ _ s
  unfold Builtin.Generator.genWake
  refine wpAny_bind (wpAny_holding (wpAny_genNumber isg ?_))
  refine wpAny_bind (wpAny_genState at0 ?_)
  have sl : (∃ c, gs = .fresh c) ∨ (∃ k l c p fs cl, gs = .suspended k l c p fs cl) := by
    cases gs with
    | fresh c => exact .inl ⟨c, rfl⟩
    | suspended k l c p fs cl => exact .inr ⟨k, l, c, p, fs, cl, rfl⟩
    | running => exact go.elim
    | finished => exact go.elim
  have fin : ∀ x s1, RP CE n (s.setGen g .running) x s1 → (x = .ok (.ret .none) ∨ x = .ok .next) ∧ CE s1 := fun x s1 hx => by
    rcases hx with hx | ⟨_, _, z⟩
    · exact hx
    · exact z.elim
  rcases sl with ⟨c, rfl⟩ | ⟨k, l, c, p, fs, cl, rfl⟩
  all_goals
    refine wpAny_bind (wpAny_roomToWake lim deep ?_)
    show wpAny _ A.in1 (.resume g (.send .none) [] _) _ _ s
    refine resume_sl at0 go (fun x s1 hx => ?_) fun v s1 k' l' c' p' fs' hv => wpAny_pure ⟨v, rfl, wpAny_pure (item v s1 k' l' c' p' fs' hv)⟩
    obtain ⟨hr, hx⟩ := fin x s1 hx
    have er : End.result (.ret x) = .returned .none := by rcases hr with z | z <;> rw [z] <;> rfl
    first | rw [er] | simp only [er]
    show wpAny _ A.in1 (newExc (.type "StopIteration") [] >>= _) _ _ _
    simp only [newExc, newTuple]
    refine wpAny_bind (wpAny_bind (wpAny_newObj_type ?_ (by size_fits)))
    refine wpAny_bind (m := firstArgMember _ _) (wpAny_of_eq (a := Value.none) (by first | rfl | (simp only [firstArgMember]; rfl)) ?_)
    refine wpAny_newObj_type ?_ (by size_fits)
    simp only [raiseNew]
    refine wpAny_bind (wpAny_bind (wpAny_handled ?_))
    first | rw [show A.in1.handled = none from calm] | rw [calm]
    refine wpAny_throw (wpAny_bind ?_)
    refine wpAny_isInstance (T := "StopIteration") (b := true) ⟨_, Heap.get?_push_size _ rfl, rfl⟩ isSubtype_stop ?_
    exact wpAny_pure (ends s1 hx _ fun b o e => Heap.get?_push_of_some _ (Heap.get?_push_of_some _ e))
end
end GnX
namespace GnX
open PySem PySem.Spec PyProof.Rows L2 GenW
/-! ### the consumer's state behind a turn of the generator -/
/-- not of the entry, or an iterator that is walked -/
def Yng (X : Cx) (b : Addr) : Prop := ∀ o, X.s_0.heap.get? b = some o → b ∈ X.ex
/-- the generator's things apart from ours -/
def Apt (X : Cx) (pins M : Pins) : Prop := ∀ q ∈ M, Yng X q.1 ∧ ∀ p ∈ X.pn ++ pins, p.1 ≠ q.1
section
variable {X : Cx} {pins M M' : Pins} {σ : L2.St} {H : Hp} {s s1 : Shared} {cn : Kn}
theorem adr_mem {b : Addr} (h : b ∈ adr M) : ∃ q ∈ M, q.1 = b := List.mem_map.mp h
theorem inv_turn (I : Inv X (pins ++ M) σ H s) (stp : Step X.prog X.w X.stack cn M s M' s1) (c : Clo cn) (hk : Knows cn H) (yg : Apt X pins M) : Inv X pins σ H s1 := by
  have mN : ∀ b, b ∈ adr M → H b = none ∧ b ≠ X.env.locals ∧ Yng X b ∧ (∀ p ∈ X.pn ++ pins, p.1 ≠ b) ∧ ∃ o, s.heap.get? b = some o ∧ ∀ v, o.data ≠ .cell v := fun b hb => by
    obtain ⟨q, hq, rfl⟩ := adr_mem hb
    obtain ⟨a1, a2, a3, _, a5⟩ := I.pin q (List.mem_append_right _ (List.mem_append_right _ hq))
    exact ⟨a2, a3, (yg q hq).1, (yg q hq).2, q.2, a1, a5⟩
  have cN : ∀ b, H b = none → cn.lookup b = none := fun b h => by
    cases q : cn.lookup b with
    | none => rfl
    | some u => rw [hk b u q] at h; cases h
  have any : ∀ b o, s.heap.get? b = some o → b ∉ adr M → cn.lookup b = none → ∃ sl, s1.heap.get? b = some { o with slots := sl } := fun b o e hm hc => by
    by_cases hf : b ∈ frs X.stack
    · exact stp.slot b o e hf
    · exact ⟨o.slots, stp.keep b o e hm hc hf⟩
  have s0M : ∀ b o, X.s_0.heap.get? b = some o → b ∉ X.ex → b ∉ adr M := fun b o e hx hb => hx ((mN b hb).2.2.1 o e)
  have s0L : ∀ b o, X.s_0.heap.get? b = some o → b ≠ X.env.locals := fun b o e => Nat.ne_of_lt (Nat.lt_of_lt_of_le (Heap.lt_size e) I.ok.above)
  have cellK : ∀ x c, X.env.cells.lookup x = some c → ∀ v, s.heap.IsCell c v → s1.heap.IsCell c v := fun x b e v ⟨o, ho, hd⟩ => by
    have hm : b ∉ adr M := fun z => by
      obtain ⟨_, _, _, _, o', e', nd⟩ := mN b z
      rw [ho] at e'; cases e'
      exact nd v hd
    obtain ⟨sl, q⟩ := any b o ho hm (cN b (I.freeC x b e))
    exact ⟨_, q, hd⟩
  have extra : ∀ b, cn.lookup b = none → H b ≠ none → ∀ o, s.heap.get? b = some o → s1.heap.get? b = some o := fun b hc hn o e =>
    stp.keep b o e (fun z => hn (mN b z).1) hc fun z => hn (I.stkFree b z)
  refine ⟨I.ok, stp.os.trans I.os, stp.bare, ⟨fun b o e n hb hx => ?_, fun b o e n hb hx => ?_, I.base.free, fun b o e hx => ?_, I.base.tups, I.base.frzs, I.base.tbls⟩, ?_, fun x b e => ?_, I.free, I.freeC, fun p hp => ?_, fun b u e => ?_, I.len⟩
  · have e1 := I.base.keep b o e n hb hx
    refine stp.keep b o e1 (s0M b o e hx) (cN b (I.base.free b o e n hx)) fun z => ?_
    rcases List.mem_cons.mp (I.stkSub b z) with z | z
    · exact s0L b o e z
    · exact hb z
  · obtain ⟨sl, e1⟩ := I.base.slot b o e n hb hx
    obtain ⟨sl', e2⟩ := any b _ e1 (s0M b o e hx) (cN b (I.base.free b o e n hx))
    exact ⟨sl', e2⟩
  · obtain ⟨o', e1⟩ := I.base.there b o e hx
    cases q : cn.lookup b with
    | none =>
      obtain ⟨sl, e2⟩ := any b o' e1 (s0M b o e hx) q
      exact ⟨_, e2⟩
    | some u => exact clo_exists c q (stp.cn b u q)
  · obtain ⟨m, ⟨o, es, ep, ho, hd, hr⟩, hl⟩ := I.loc
    obtain ⟨sl, e2⟩ := any X.env.locals o ho (fun z => (mN _ z).2.1 rfl) (cN _ I.free)
    refine ⟨m, ⟨_, es, ep, e2, hd, hr⟩, fun i x v e1 e2 e3 => ?_⟩
    obtain ⟨u, r, l⟩ := hl i x v e1 e2 e3
    refine ⟨u, r, ?_⟩
    rcases l with l | ⟨k, b, e, z⟩
    · exact .inl l
    · exact .inr ⟨k, b, e, cellK x b e _ z⟩
  · obtain ⟨v, z⟩ := I.cell x b e
    exact ⟨v, cellK x b e v z⟩
  · have hp' : p ∈ X.pn ++ (pins ++ M) := by
      rcases List.mem_append.mp hp with z | z
      · exact List.mem_append_left _ z
      · exact List.mem_append_right _ (List.mem_append_left _ z)
    obtain ⟨a1, a2, a3, a4, a5⟩ := I.pin p hp'
    refine ⟨stp.keep p.1 p.2 a1 (fun z => (mN p.1 z).2.2.2.1 p hp rfl) (cN p.1 a2) fun z => ?_, a2, a3, a4, a5⟩
    rcases List.mem_cons.mp (I.stkSub p.1 z) with z | z
    · exact a3 z
    · exact a4 z
  · cases q : cn.lookup b with
    | some u' =>
      have e1 := hk b u' q
      rw [e] at e1
      cases e1
      exact clo_ok c hk q (stp.cn b u q)
    | none =>
      refine (I.hok b u e).stay (fun x o hx ex => ?_) (fun _ z => z) fun _ _ z => z
      rcases hx with z | z
      · rw [z] at ex ⊢
        exact extra b q (by rw [e]; exact fun z => by cases z) o ex
      · refine extra x ?_ (by rw [z]; exact fun y => by cases y) o ex
        cases y : cn.lookup x with
        | none => rfl
        | some w =>
          have e2 := hk x w y
          rw [z] at e2
          cases e2
          obtain ⟨C, fs, e3⟩ := c x _ y
          rw [q] at e3; cases e3
/-- a new thing at p is told -/
theorem inv_lay {p : Addr} {o : HO} (I : Inv X pins σ H s) (hn : H p = none) (hy : Yng X p) (hL : p ≠ X.env.locals) (hC : ∀ x c, X.env.cells.lookup x = some c → c ≠ p) (hP : ∀ q ∈ X.pn ++ pins, q.1 ≠ p) (new : ObjOk X.prog X.w (upd H p o) s.heap p o) :
    Inv X pins σ (upd H p o) s := by
  refine ⟨I.ok, I.os, I.bare, ⟨I.base.keep, I.base.slot, fun b ob e n hx => ?_, I.base.there, fun b xs e => ?_, fun b ob u e => ?_, fun b ps e => ?_⟩, I.loc, I.cell, ?_, fun x c e => ?_, fun q hq => ?_, fun b u e => ?_, I.len⟩
  · rw [upd_ne (fun z => hx (by rw [z] at e ⊢; exact hy ob e))]
    exact I.base.free b ob e n hx
  · have y := I.base.tups b xs e
    rw [upd_ne (ne_of_none y hn)]; exact y
  · have y := I.base.frzs b ob u e
    rw [upd_ne (ne_of_none y hn)]; exact y
  · obtain ⟨more, y⟩ := I.base.tbls b ps e
    exact ⟨more, by rw [upd_ne (ne_of_none y hn)]; exact y⟩
  · rw [upd_ne (Ne.symm hL)]; exact I.free
  · rw [upd_ne (hC x c e)]; exact I.freeC x c e
  · obtain ⟨a1, a2, a3⟩ := I.pin q hq
    exact ⟨a1, by rw [upd_ne (hP q hq)]; exact a2, a3⟩
  · by_cases hb : b = p
    · subst hb
      rw [upd_same] at e
      cases e
      exact new
    · rw [upd_ne hb] at e
      exact (I.hok b u e).stay (fun _ _ _ z => z) (fun x z => by rw [upd_ne (ne_of_none z hn)]; exact z) fun x xs z => by rw [upd_ne (ne_of_none z hn)]; exact z
/-- behind a yield: the new tuple is tracked, the generator's things are pinned as they now stand -/
theorem inv_item {p : Addr} {row : List V} (I : Inv X (pins ++ M) σ H s) (stp : Step X.prog X.w X.stack cn M s M' s1) (c : Clo cn) (hk : Knows cn H) (yg : Apt X pins M) (hp : p ∈ adr M ∨ s.heap.get? p = none) (hz : row.length ≤ sizeLine)
    (ht : ∃ its, Vals row its ∧ IsTup s1.heap p its.toArray) (hM : p ∉ adr M') : H p = none ∧ Apt X pins M' ∧ Inv X (pins ++ M') σ (upd H p (.tup row)) s1 := by
  have I1 := inv_turn I stp c hk yg
  have mN : ∀ b, b ∈ adr M → H b = none ∧ b ≠ X.env.locals ∧ Yng X b ∧ (∀ p ∈ X.pn ++ pins, p.1 ≠ b) ∧ ∃ o, s.heap.get? b = some o ∧ ∀ v, o.data ≠ .cell v := fun b hb => by
    obtain ⟨q, hq, rfl⟩ := adr_mem hb
    obtain ⟨a1, a2, a3, _, a5⟩ := I.pin q (List.mem_append_right _ (List.mem_append_right _ hq))
    exact ⟨a2, a3, (yg q hq).1, (yg q hq).2, q.2, a1, a5⟩
  have gone : ∀ b, s.heap.get? b = none → H b = none ∧ b ≠ X.env.locals ∧ Yng X b ∧ (∀ p ∈ X.pn ++ pins, p.1 ≠ b) ∧ ∀ x c, X.env.cells.lookup x = some c → c ≠ b := fun b e => by
    refine ⟨?_, fun z => ?_, fun o e0 => ?_, fun q hq z => ?_, fun x c hc z => ?_⟩
    · cases q : H b with
      | none => rfl
      | some u =>
        exfalso
        have ex : ∃ o, s.heap.get? b = some o := by
          have x := I.hok b u q
          cases u with
          | lst xs => obtain ⟨_, _, _, _, e⟩ := x; exact ⟨_, e⟩
          | tup xs => obtain ⟨_, _, _, o, e, _⟩ := x; exact ⟨o, e⟩
          | dK kvs => obtain ⟨_, _, _, _, o, _, _, e, _⟩ := x; exact ⟨o, e⟩
          | dT kvs => obtain ⟨_, _, _, _, o, _, _, e, _⟩ := x; exact ⟨o, e⟩
          | set S n => obtain ⟨o, _, _, _, e, _⟩ := x; exact ⟨o, e⟩
          | ins C dx fs => obtain ⟨_, _, _, e, _⟩ := x; exact ⟨_, e⟩
          | own y => exact x
          | xd fs => obtain ⟨_, ⟨o, _, _, e, _⟩, _⟩ := x; exact ⟨o, e⟩
          | rng lo hi => obtain ⟨_, _, _, e⟩ := x; exact ⟨_, e⟩
          | frz ob u => obtain ⟨e, _⟩ := x; exact ⟨_, e⟩
          | tbl ps => exact ⟨_, show s.heap.get? b = some _ from x⟩
          | met f y => exact ⟨_, show s.heap.get? b = some _ from x⟩
          | ext φ => obtain ⟨_, e, _⟩ := x; exact e
        obtain ⟨o, e'⟩ := ex
        rw [e] at e'; cases e'
    · obtain ⟨m, ⟨o, _, _, ho, _⟩, _⟩ := I.loc
      rw [z, ho] at e; cases e
    · by_cases hx : b ∈ X.ex
      · exact hx
      · obtain ⟨o', e1⟩ := I.base.there b o e0 hx
        rw [e] at e1; cases e1
    · have hq' : q ∈ X.pn ++ (pins ++ M) := by
        rcases List.mem_append.mp hq with z | z
        · exact List.mem_append_left _ z
        · exact List.mem_append_right _ (List.mem_append_left _ z)
      have a1 := (I.pin q hq').1
      rw [z, e] at a1; cases a1
    · obtain ⟨v, o, ho, _⟩ := I.cell x c hc
      rw [z, e] at ho; cases ho
  have nfs : ∀ b, Yng X b → b ∉ X.fs := fun b hy hf => by
    obtain ⟨_, o, ho, _⟩ := I.ok.funs.mem hf
    exact I.ok.exfs b (hy o ho) hf
  have cellM : ∀ b, b ∈ adr M → ∀ x c, X.env.cells.lookup x = some c → c ≠ b := fun b hb x c hc z => by
    obtain ⟨v, o, ho, hd⟩ := I.cell x c hc
    obtain ⟨_, _, _, _, o', e', nd⟩ := mN b hb
    rw [z, e'] at ho; cases ho
    exact nd v hd
  have one : ∀ b, b ∈ adr M ∨ s.heap.get? b = none → H b = none ∧ b ≠ X.env.locals ∧ Yng X b ∧ (∀ p ∈ X.pn ++ pins, p.1 ≠ b) ∧ ∀ x c, X.env.cells.lookup x = some c → c ≠ b := fun b hb => by
    rcases hb with z | z
    · obtain ⟨a1, a2, a3, a4, _⟩ := mN b z
      exact ⟨a1, a2, a3, a4, cellM b z⟩
    · exact gone b z
  obtain ⟨p1, p2, p3, p4, p5⟩ := one p hp
  obtain ⟨its, ri, hI⟩ := ht
  have I2 : Inv X pins σ (upd H p (.tup row)) s1 := inv_lay I1 p1 p3 p2 p5 p4 ⟨hz, its, ri, hI⟩
  have ap : Apt X pins M' := fun q hq => by
    obtain ⟨_, _, z⟩ := stp.pin q hq
    obtain ⟨_, _, a3, a4, _⟩ := one q.1 z
    exact ⟨a3, a4⟩
  refine ⟨p1, ap, I2.pins_of fun q hq => ?_⟩
  rcases List.mem_append.mp hq with z | z
  · exact I2.pin q (List.mem_append_right _ z)
  · obtain ⟨b1, b2, b3⟩ := stp.pin q z
    obtain ⟨a1, a2, a3, _, _⟩ := one q.1 b3
    refine ⟨b1, ?_, a2, nfs q.1 a3, b2⟩
    rw [upd_ne (fun e => hM (List.mem_map.mpr ⟨q, z, e⟩))]
    exact a1
end
end GnX
namespace GnX
open PySem PySem.Spec PyProof.Rows L2 GenW
/-! ### for over a generator -/
theorem inv_gens {X : Cx} {pins : Pins} {σ : L2.St} {H : Hp} {s : Shared} {G : Array GenState} (I : Inv X pins σ H s) (hG : AllBare G) : Inv X pins σ H { s with gens := G } :=
  ⟨I.ok, I.os, hG, I.base, I.loc, I.cell, I.free, I.freeC, I.pin, I.hok, I.len⟩
theorem inv_gens' {X : Cx} {pins : Pins} {σ : L2.St} {H : Hp} {s : Shared} {G : Array GenState} (I : Inv X pins σ H { s with gens := G }) (hG : AllBare s.gens) : Inv X pins σ H s :=
  ⟨I.ok, I.os, hG, I.base, I.loc, I.cell, I.free, I.freeC, I.pin, I.hok, I.len⟩
/-- the wish of an exception does not lean on sleepers -/
def XeG (X : Cx) : Prop := ∀ e (s : Shared) (G : Array GenState), X.xe e { s with gens := G } → (AllBare G → AllBare s.gens) → X.xe e s
theorem thnB {X : Cx} {α : Type} {t : Sem α} {Q Q' : α → Shared → Prop} {s : Shared} (hx : XeG X) (hb : AllBare s.gens) (h : wpAny (model X.prog X.w) X.A t Q X.xe (lulled s))
    (hQ : ∀ a s' G, Q a { s' with gens := G } → (AllBare G → AllBare s'.gens) → Sleep s s' → Q' a s') : wpAny (model X.prog X.w) X.A t Q' X.xe s :=
  wpAny_mono (wpAny_beside hb h) (fun a s' ⟨G, q, b, sl⟩ => hQ a s' G q b sl) fun e s' ⟨G, q, b, _⟩ => hx e s' G q b
section
variable {X : Cx} {pins : Pins} {cn : Kn} {rows : List (List V)} {W : Nat → L2.St → Hp → Prop}
def cW (X : Cx) (pins : Pins) (rows : List (List V)) (W : Nat → L2.St → Hp → Prop) : Nat → Pins → Shared → Prop := fun j M s => ∃ σ H, Inv X (pins ++ M) σ H s ∧ Apt X pins M ∧ W j σ H
def cY (X : Cx) (pins : Pins) (rows : List (List V)) (W : Nat → L2.St → Hp → Prop) : Nat → Pins → Value → Shared → Prop := fun j M v s => ∃ σ H p row, v = .ref p ∧ rows[j]? = some row ∧ H p = none ∧ Inv X (pins ++ M) σ (upd H p (.tup row)) s ∧ Apt X pins M ∧ W j σ H
def cE (X : Cx) (pins : Pins) (rows : List (List V)) (W : Nat → L2.St → Hp → Prop) : Shared → Prop := fun s => ∃ σ H, Inv X pins σ H s ∧ W rows.length σ H
theorem cons_of (c : Clo cn) (hk : ∀ j σ H, W j σ H → Knows cn H) : Cons X.prog X.w X.base X.stack cn rows (cW X pins rows W) (cY X pins rows W) (cE X pins rows W) where
  need := fun j M s ⟨σ, H, I, ap, w⟩ => ⟨I.bare, I.bk, I.stack, fun b u e => clo_ok c (fun _ _ z => z) e (I.hok b u (hk j σ H w b u e)), fun q hq => (I.pin q (List.mem_append_right _ (List.mem_append_right _ hq))).1⟩
  item := fun j M M' row p s s1 hrow ⟨σ, H, I, ap, w⟩ stp hp hz ht hM => by
    obtain ⟨h1, h2, h3⟩ := inv_item I stp c (hk j σ H w) ap hp hz ht hM
    exact ⟨σ, H, p, row, rfl, hrow, h1, h3, h2, w⟩
  done := fun M s s1 ⟨σ, H, I, ap, w⟩ stp => ⟨σ, H, inv_turn I stp c (hk _ σ H w) ap, w⟩
end
/-- the state ahead of a turn: the generator sleeps (or has not begun), n rows are to come -/
def GAhead (P : Program) (w : World) (A : Around) (N : Nat) (WK : Nat → Pins → Shared → Prop) (CY : Nat → Pins → Value → Shared → Prop) (CE : Shared → Prop) (g n : Nat) (s : Shared) : Prop :=
  ∃ j M, WK j M s ∧ n + j = N ∧ ∃ gs, s.gens[g]? = some gs ∧ ∀ s', WK j M s' → gs.Goes (model P w) A.in1 (RP CE) (YP WK CY N) n (.send .none) s'
/-- a generator has come: it is ahead of its first turn -/
theorem ahead_new {X : Cx} {pins : Pins} {σ : L2.St} {H : Hp} {sc s1 : Shared} {k a g : Nat} {c : Code} {cn : Kn} {rows : List (List V)} {W : Nat → L2.St → Hp → Prop} (I : Inv X pins σ H sc) (hn : GNew X.prog X.w X.base k X.stack cn rows H sc a g c s1) (hr : Room (k + 1) X.A)
    (hk : ∀ j σ H, W j σ H → Knows cn H) (w0 : W 0 σ H) : ∃ go : Obj, (∀ h : Heap, h.get? a = some go → h.IsGen a g) ∧ go.cls = .type "generator" ∧ (∃ vs, go.data = .fields vs) ∧
      GAhead X.prog X.w X.A rows.length (cW X (pins ++ [(a, go)]) rows W) (cY X (pins ++ [(a, go)]) rows W) (cE X (pins ++ [(a, go)]) rows W) g rows.length s1 := by
  obtain ⟨go, nm, qn, ega, hc, hd, hsl⟩ := hn.gen
  obtain ⟨o0, e0, d0⟩ := hn.fr
  refine ⟨go, fun h e => ⟨go, nm, qn, e, hc, hd, hsl⟩, hc, ⟨_, hd⟩, 0, pinsAt [sc.heap.objs.size] s1.heap, ?_, rfl, _, hn.st, fun s' hw => ⟨rfl, hn.go X.A.in1 _ _ _ hr.in1 I.ok.frames (cons_of hn.clo hk) s' hw⟩⟩
  have I1 : Inv X pins σ H s1 := I.call' (ch := []) hn.os (Un.kept hn.kept) (I.hok.kept hn.kept) hn.bare fun b hb => by simp at hb
  have f0 := I.fpOk (b := sc.heap.objs.size) (Nat.le_refl _) (I.hok.fresh (Nat.le_refl _))
  have fa := I.fpOk (b := a) (Nat.le_of_lt hn.lt0) (I.hok.fresh (Nat.le_of_lt hn.lt0))
  have yng : ∀ b, sc.heap.objs.size ≤ b → Yng X b := fun b hb o e => absurd (Nat.lt_of_lt_of_le (Heap.lt_size e) (Nat.le_trans I.sz hb)) (Nat.lt_irrefl _)
  have pM : pinsAt [sc.heap.objs.size] s1.heap = [(sc.heap.objs.size, o0)] := by
    unfold pinsAt
    simp [e0]
  rw [pM]
  refine ⟨σ, H, I1.pins_of fun p hp => ?_, fun q hq => ?_, w0⟩
  · rcases List.mem_append.mp hp with z | z
    · rcases List.mem_append.mp z with z | z
      · exact I1.pin p (List.mem_append_right _ z)
      · obtain rfl : p = (a, go) := List.mem_singleton.mp z
        exact ⟨ega, fa.1, fa.2.1, fa.2.2.1, fun v y => by rw [show (a, go).2.data = _ from hd] at y; cases y⟩
    · obtain rfl : p = (sc.heap.objs.size, o0) := List.mem_singleton.mp z
      exact ⟨e0, f0.1, f0.2.1, f0.2.2.1, d0⟩
  · obtain rfl : q = (sc.heap.objs.size, o0) := List.mem_singleton.mp hq
    refine ⟨yng _ (Nat.le_refl _), fun p hp => ?_⟩
    rcases List.mem_append.mp hp with z | z
    · exact f0.2.2.2.2.2 p (List.mem_append_left _ z)
    · rcases List.mem_append.mp z with z | z
      · exact f0.2.2.2.2.2 p (List.mem_append_right _ z)
      · obtain rfl : p = (a, go) := List.mem_singleton.mp z
        exact Nat.ne_of_gt hn.lt0
/-- a turn of it -/
theorem ahead_next {X : Cx} {pins : Pins} {a g n : Nat} {go : Obj} {rows : List (List V)} {W : Nat → L2.St → Hp → Prop} {s : Shared} {E : Value → Shared → Prop} {Q : Option Value → Shared → Prop} (hc : X.calm = true) (hr : X.A.depth < recursionLimit) (isg : ∀ h : Heap, h.get? a = some go → h.IsGen a g) (ma : (a, go) ∈ pins)
    (h : GAhead X.prog X.w X.A rows.length (cW X pins rows W) (cY X pins rows W) (cE X pins rows W) g n s)
    (none' : ∀ σ H s1, Inv X pins σ H s1 → W rows.length σ H → Q none s1)
    (some' : ∀ j M σ H p row s1 k l c q fs, rows[j]? = some row → H p = none → Inv X (pins ++ M) σ (upd H p (.tup row)) s1 → Apt X pins M → W j σ H → s1.gens[g]? = some (.suspended k l c q fs false) →
      (∀ s2, s2.gens[g]? = some (.suspended k l c q fs false) → cW X pins rows W (j + 1) M s2 → ∃ m, m < n ∧ GAhead X.prog X.w X.A rows.length (cW X pins rows W) (cY X pins rows W) (cE X pins rows W) g m s2) → Q (some (.ref p)) s1) :
    wpAny (model X.prog X.w) X.A (pyNext (.ref a)) Q E s := by
  obtain ⟨j, M, ⟨σ, H, I, ap, w⟩, hn, gs, at0, go1⟩ := h
  have hgl : g < s.gens.size := (Array.getElem?_eq_some_iff.mp at0).1
  have ega : s.heap.get? a = some go := (I.pin (a, go) (List.mem_append_right _ (List.mem_append_left _ ma))).1
  have run1 : AllBare (s.setGen g .running).gens := allBare_setGen I.bare rfl
  refine wpAny_gsz (n := g + 1) hgl (next_sl (I.ok.hd hc) I.nolimit hr (isg _ ega) at0 (go1 _ ⟨σ, H, inv_gens I run1, ap, w⟩) (fun v s1 k' l' c' p' fs' hv => ?_) fun s1 he h' kp => ?_)
  · intro hsz
    obtain ⟨M', j', hj, ⟨σ', H', p, row, rfl, hrow, hpn, I', ap', w'⟩, hkap⟩ := hv
    have hs1 : (s1.setGen g (.suspended k' l' c' p' fs' false)).gens[g]? = some (.suspended k' l' c' p' fs' false) := setGen_at (by
      have q : (s1.setGen g (.suspended k' l' c' p' fs' false)).gens.size = s1.gens.size := setGen_size _ _ _
      omega)
    refine some' j' M' σ' H' p row _ k' l' c' p' fs' hrow hpn (inv_gens I' (allBare_setGen I'.bare rfl)) ap' w' hs1 fun s2 h2 hw => ?_
    cases n with
    | zero => exact (hkap s2 hw).elim
    | succ m => exact ⟨m, Nat.lt_succ_self _, j' + 1, M', hw, by omega, _, h2, fun s' hw' => hkap s' hw'⟩
  · intro _
    obtain ⟨σ', H', I', w'⟩ := he
    have I2 : Inv X pins σ' H' (s1.setGen g .finished) := inv_gens I' (allBare_setGen I'.bare rfl)
    exact none' σ' H' _ (I2.kept (t' := s1.toks) kp) w'
def tForGn (tg : TGn2) (g : L2.TG) (tb : TS) : TS := fun D σ H => tg σ H fun cn rows H1 => ∃ W : Nat → L2.St → Hp → Prop, W 0 σ H1 ∧ (∀ j σ H, W j σ H → Knows cn H) ∧
  (∀ j row σ H, rows[j]? = some row → W j σ H → ∀ p, H p = none → g (.ref p) σ (upd H p (.tup row)) fun σ2 H2 => tb { D with nx := W (j + 1), ct := W (j + 1), bk := D.nx } σ2 H2) ∧ ∀ σ H, W rows.length σ H → D.nx σ H
theorem ps_forGn {X : Cx} {k : Nat} {tgt iter : Expr} {body : List Stmt} {tg : TGn2} {g : L2.TG} {tb : TS} {pos : Pos} (hp : PassesOwn (model X.prog X.w) X.A X.env X.xe) (hx : XeG X) (hc : X.calm = true) (hr : Room (k + 1) X.A) (hi : PGn X k iter tg) (hg : PG X tgt g) (hb : PSs X body tb)
    (hs : ∀ x, foldedSetIterable iter X.env x = pure x := by intro _; rfl) : PS X (.For tgt iter body [] pos) (tForGn tg g tb) := by
  refine ⟨fun pins s σ H D I h => ?_⟩
  refine wpAny_For (thn (hi.run pins s σ H _ I h) fun v s1 h1 => ?_) hs
  obtain ⟨cn, rows, a, gn, c, H1, sc, rfl, I1, hn, W, w0, hk, step, fin⟩ := h1
  obtain ⟨go, isg, gc, ⟨vs, gd⟩, ah⟩ := ahead_new I1 hn hr hk w0
  have ega1 : s1.heap.IsGen a gn := hn.gen
  refine wpAny_pyIter_gen ega1 ?_
  refine codeAny_forLoop_any (fun n s' => GAhead X.prog X.w X.A rows.length (cW X (pins ++ [(a, go)]) rows W) (cY X (pins ++ [(a, go)]) rows W) (cE X (pins ++ [(a, go)]) rows W) gn n s') ?_ rows.length ah
  intro n s3 ah3
  have ma : (a, go) ∈ pins ++ [(a, go)] := List.mem_append_right _ (List.mem_singleton.mpr rfl)
  refine wpAny_passesOwn hp (ahead_next (E := X.xe) hc (by have := hr.dp; omega) isg ma ah3 (fun σ' H' s4 I4 w4 => ?_) fun j M σ' H' p row s4 k' l' c' q' fs' hrow hpn I4 ap w4 hg4 cont => ?_)
  · exact wpAny_execs_nil ⟨σ', H', I4.unpinned, fin σ' H' w4⟩
  · have ega : s4.heap.get? a = some go := (I4.pin (a, go) (List.mem_append_right _ (List.mem_append_left _ ma))).1
    refine go_of ega gc gd (by decide) ?_
    refine wpAny_passesOwn hp (thnB hx I4.bare (hg.run _ (lulled s4) σ' (upd H' p (.tup row)) (.ref p) (.ref p) _ (inv_gens I4 (lulled_bare I4.bare)) rfl (step j row σ' H' hrow w4 p hpn)) fun _ s5 G ⟨σ5, H5, I5, q5⟩ hG sl5 => ?_)
    have I5' := inv_gens' I5 (hG I5.bare)
    refine wpAny_passesOwn hp (thnB hx I5'.bare (hb.run _ (lulled s5) σ5 H5 _ (inv_gens I5' (lulled_bare I5'.bare)) q5) fun f s6 G q6 hG6 sl6 => ?_)
    have hg6 := sl6 gn _ _ _ _ _ _ (sl5 gn _ _ _ _ _ _ hg4)
    have again : ∀ {σ7 : L2.St} {H7 : Hp}, Inv X ((pins ++ [(a, go)]) ++ M) σ7 H7 { s6 with gens := G } → W (j + 1) σ7 H7 → ∃ m, m < n ∧ GAhead X.prog X.w X.A rows.length (cW X (pins ++ [(a, go)]) rows W) (cY X (pins ++ [(a, go)]) rows W) (cE X (pins ++ [(a, go)]) rows W) gn m s6 := fun {σ7 H7} I7 w7 =>
      cont s6 hg6 ⟨σ7, H7, inv_gens' I7 (hG6 I7.bare), ap, w7⟩
    cases f with
    | next => obtain ⟨σ7, H7, I7, n7⟩ := q6; exact again I7 n7
    | cont => obtain ⟨σ7, H7, I7, n7⟩ := q6; exact again I7 n7
    | brk => obtain ⟨σ7, H7, I7, q7⟩ := q6; exact ⟨σ7, H7, (inv_gens' I7 (hG6 I7.bare)).unpinned.unpinned, q7⟩
    | ret v => obtain ⟨x7, σ7, H7, I7, r7, q7⟩ := q6; exact ⟨x7, σ7, H7, (inv_gens' I7 (hG6 I7.bare)).unpinned.unpinned, r7, q7⟩
end GnX
namespace GnX
open PySem PySem.Spec PyProof.Rows L2 GenW
/-! ### a list comprehension over a generator -/
def tLcGn (tg : TGn2) (g : L2.TG) (te : TE) (vs : List Nat) : TE := fun σ H Q => tg σ H fun cn rows H1 => ∀ D, H1 D = none → ∃ Pv : Nat → Hp → Prop, Pv 0 (upd H1 D (.lst [])) ∧ (∀ j H, Pv j H → Knows cn H) ∧
  (∀ j row H, rows[j]? = some row → Pv j H → ∀ p, H p = none → g (.ref p) (wipe σ vs) (upd H p (.tup row)) fun σ2 H2 => wipe σ2 vs = wipe σ vs ∧ te σ2 H2 fun y H4 => ∃ acc, H4 D = some (.lst acc) ∧ acc.length < sizeLine ∧ Pv (j + 1) (upd H4 D (.lst (acc ++ [y])))) ∧
  ∀ H, Pv rows.length H → Q (.ref D) H
section
variable {X : Cx}
theorem lcG_core {use : Option (Value → Sem Unit)} {k : Nat} {pn : Pins} {t : Shared} {σ : L2.St} {H : Hp} {Q : VK} {el tgt itr : Expr} {sc : Scope} {own : List (Str × Nat)} {po po' : Pos} {tg : TGn2} {g : L2.TG} {te : TE} {Qf : Value → Shared → Prop} (calm : X.calm = true) (nodup : X.N.Nodup) (hr : Room (k + 1) X.A) (J : Inv X pn σ H t) (pi : PGn X k itr tg) (ok : BlkOk X.N X.env.scope sc own)
    (pg : ∀ (t : Shared) (H : Hp) (C : Addr) (cl : List (Str × Addr)) (fp : List Addr), PG (X.blk t H sc (compEnvC sc cl C X.env) fp) tgt g)
    (pe : ∀ (t : Shared) (H : Hp) (C : Addr) (cl : List (Str × Addr)) (fp : List Addr), PE (X.blk t H sc (compEnvC sc cl C X.env) fp) el te)
    (fo : ∀ x, foldedSetIterable itr X.env x = pure x) (rd : tLcGn tg g te (own.map (·.2)) σ H Q)
    (fin : ∀ D C t' m H', Inv X pn σ H' t' → Q (.ref D) H' → t'.heap.Ns C m → FpOk X pn H' C → compPost (model X.prog X.w) X.A X.xe use Qf (.ref D) C (.ok .next) t') :
    wpAny (model X.prog X.w) X.A (comprehension (.ListComp el [⟨tgt, itr, [], 0⟩] sc po) sc X.env po' (newList []) false (eval itr X.env) use) Qf X.xe t := by
  have hfree : ∀ y ∈ sc.names, y.2 = .free → ∃ c, X.env.cells.lookup y.1 = some c := fun y hy e => by
    rcases ok.free y hy e with k | k
    · exact J.ok.has _ (.inl k)
    · exact J.ok.has _ (.inr k)
  refine wpAny_comprehension_free (use := use) rfl fo (closure_ok hfree) ok.kind (fun y hy e => by rw [ok.uniq y hy, e]) (thn (pi.run pn t σ H _ J rd) fun xv t1 hx => ?_)
  obtain ⟨cn, rows, a, gn, c, H1, sc0, rfl, Jc, hn, q⟩ := hx
  refine wpAny_pyIter_gen hn.gen ?_
  refine wpAny_newObj_type (newEnv_comp ?_) (Nat.zero_le _)
  have J2 : Inv X pn σ H1 t1 := Jc.call' (ch := []) hn.os (Un.kept hn.kept) (Jc.hok.kept hn.kept) hn.bare fun b hb => by simp at hb
  obtain ⟨go, nm, qn, ega, gc, gd, hsl⟩ := hn.gen
  obtain ⟨o0, e0, d0⟩ := hn.fr
  have isg : ∀ h : Heap, h.get? a = some go → h.IsGen a gn := fun h e => ⟨go, nm, qn, e, gc, gd, hsl⟩
  have f0 := Jc.fpOk (b := sc0.heap.objs.size) (Nat.le_refl _) (Jc.hok.fresh (Nat.le_refl _))
  have fa := Jc.fpOk (b := a) (Nat.le_of_lt hn.lt0) (Jc.hok.fresh (Nat.le_of_lt hn.lt0))
  generalize hD : t1.heap.objs.size = D
  have Dn2 : H1 D = none := J2.hok.fresh (Nat.le_of_eq hD)
  obtain ⟨Pv, w0, hk, step, done⟩ := q D Dn2
  generalize ht3 : ({ t1 with heap := t1.heap.push { cls := .type "list", data := .seq ([] : List Value).toArray } } : Shared) = t3
  have hp3 : t3.heap = t1.heap.push { cls := .type "list", data := .seq ([] : List Value).toArray } := by rw [← ht3]
  have k23 : ∀ b u, t1.heap.get? b = some u → t3.heap.get? b = some u := fun b u e => by rw [hp3]; exact Heap.get?_push_of_some _ e
  have J3 : Inv X pn σ (upd H1 D (.lst [])) t3 := by
    rw [← ht3]
    refine J2.laid (t' := t1.toks) (fun b u e => Heap.get?_push_of_some _ e) (Nat.le_of_eq hD) ⟨Nat.zero_le _, [], 0, .nil, ?_⟩
    rw [← hD]; exact Heap.get?_push_size _ rfl
  have sz3 : t3.heap.objs.size = t1.heap.objs.size + 1 := by rw [hp3, Heap.size_push]
  have lt1 : ∀ b ∈ [sc0.heap.objs.size, a], b < t1.heap.objs.size := fun b hb => by
    rcases List.mem_cons.mp hb with z | z
    · rw [z]; exact Heap.lt_size e0
    · rw [List.mem_singleton.mp z]; exact hn.lta
  have fpA : ∀ b ∈ [sc0.heap.objs.size, a], FpOk X pn H1 b := fun b hb => by
    rcases List.mem_cons.mp hb with z | z
    · rw [z]; exact f0
    · rw [List.mem_singleton.mp z]; exact fa
  have fp3 : ∀ b ∈ [sc0.heap.objs.size, a], FpOk X pn (upd H1 D (.lst [])) b ∧ b < t3.heap.objs.size := fun b hb => by
    have z := lt1 b hb
    have nD : b ≠ D := by rw [← hD]; exact Nat.ne_of_lt z
    exact ⟨⟨(upd_ne nD).trans (fpA b hb).1, (fpA b hb).2⟩, by rw [sz3]; exact Nat.lt_succ_of_lt z⟩
  have J4 := block_start J3 ok nodup fp3
  generalize hcl : cellsFrom (t3.heap.objs.size + 1) sc.names (cloFrom X.env.cells sc.names []) = cls at J4 ⊢
  have k34 : ∀ b u, t3.heap.get? b = some u → (pushCells (t3.heap.push { cls := .type "dict", data := .dict #[] }) sc.names).get? b = some u := fun b u e => pushCells_keeps _ _ _ _ (Heap.get?_push_of_some _ e)
  show codeAny _ _ (.compStart (.ListComp el [⟨tgt, itr, [], 0⟩] sc po) 0 (.ref a) (.ref D) (compEnvC sc cls t3.heap.objs.size X.env)) (compPost (model X.prog X.w) X.A X.xe use Qf (.ref D) t3.heap.objs.size) { t3 with heap := pushCells (t3.heap.push { cls := .type "dict", data := .dict #[] }) sc.names }
  have pg' := pg t3 (upd H1 D (.lst [])) t3.heap.objs.size cls [sc0.heap.objs.size, a]
  have pe' := pe t3 (upd H1 D (.lst [])) t3.heap.objs.size cls [sc0.heap.objs.size, a]
  generalize hce : compEnvC sc cls t3.heap.objs.size X.env = ce at J4 pg' pe' ⊢
  have cL : ce.locals = t3.heap.objs.size := by subst hce; rfl
  generalize hz3 : upd H1 D (.lst []) = H3 at J3 J4 pg' pe' w0 fp3
  generalize ht4 : ({ t3 with heap := pushCells (t3.heap.push { cls := .type "dict", data := .dict #[] }) sc.names } : Shared) = t4 at J4 ⊢
  have h4 : ∀ b u, t1.heap.get? b = some u → t4.heap.get? b = some u := fun b u e => by rw [← ht4]; exact k34 b u (k23 b u e)
  have g4 : t4.gens = t1.gens := by rw [← ht4, ← ht3]
  -- the block's state with the generator pinned
  have blkF : ∀ b ∈ [sc0.heap.objs.size, a], H3 b = none ∧ b ≠ (X.blk t3 H3 sc ce [sc0.heap.objs.size, a]).env.locals ∧ b ∉ (X.blk t3 H3 sc ce [sc0.heap.objs.size, a]).fs := fun b hb => by
    refine ⟨(fp3 b hb).1.1, ?_, J4.ok.exfs b hb⟩
    show b ≠ ce.locals
    rw [cL]; exact Nat.ne_of_lt (fp3 b hb).2
  have J4p : Inv (X.blk t3 H3 sc ce [sc0.heap.objs.size, a]) ([(a, go)] ++ [(sc0.heap.objs.size, o0)]) (wipe σ (own.map (·.2))) H3 t4 := by
    refine J4.pins_of fun p hp => ?_
    rcases List.mem_append.mp hp with z | z
    · obtain rfl : p = (a, go) := List.mem_singleton.mp z
      obtain ⟨b1, b2, b3⟩ := blkF a (by simp)
      exact ⟨h4 _ _ ega, b1, b2, b3, fun v y => by rw [show (a, go).2.data = _ from gd] at y; cases y⟩
    · obtain rfl : p = (sc0.heap.objs.size, o0) := List.mem_singleton.mp z
      obtain ⟨b1, b2, b3⟩ := blkF _ (List.mem_cons_self)
      exact ⟨h4 _ _ e0, b1, b2, b3, d0⟩
  have ma : (a, go) ∈ [(a, go)] := List.mem_singleton.mpr rfl
  have pM : pinsAt [sc0.heap.objs.size] t1.heap = [(sc0.heap.objs.size, o0)] := by
    unfold pinsAt
    simp [e0]
  have kW : ∀ j σ' H', (σ' = wipe σ (own.map (·.2)) ∧ Pv j H') → Knows cn H' := fun j σ' H' z => hk j H' z.2
  have ah : GAhead X.prog X.w X.A rows.length (cW (X.blk t3 H3 sc ce [sc0.heap.objs.size, a]) [(a, go)] rows fun j σ' H' => σ' = wipe σ (own.map (·.2)) ∧ Pv j H') (cY (X.blk t3 H3 sc ce [sc0.heap.objs.size, a]) [(a, go)] rows fun j σ' H' => σ' = wipe σ (own.map (·.2)) ∧ Pv j H')
      (cE (X.blk t3 H3 sc ce [sc0.heap.objs.size, a]) [(a, go)] rows fun j σ' H' => σ' = wipe σ (own.map (·.2)) ∧ Pv j H') gn rows.length t4 := by
    refine ⟨0, pinsAt [sc0.heap.objs.size] t1.heap, ?_, rfl, .fresh c, by rw [g4]; exact hn.st, fun s' hw => ⟨rfl, hn.go X.A.in1 _ _ _ hr.in1 J.ok.frames (cons_of (X := X.blk t3 H3 sc ce [sc0.heap.objs.size, a]) hn.clo kW) s' hw⟩⟩
    rw [pM]
    refine ⟨_, H3, J4p, fun q hq => ?_, rfl, w0⟩
    obtain rfl : q = (sc0.heap.objs.size, o0) := List.mem_singleton.mp hq
    refine ⟨fun o _ => List.mem_cons_self, fun p hp => ?_⟩
    obtain rfl : p = (a, go) := by simpa using hp
    exact Nat.ne_of_gt hn.lt0
  have hxB : XeG (X.blk t3 H3 sc ce [sc0.heap.objs.size, a]) := fun _ _ _ z _ => z
  have loop : codeAny (model X.prog X.w) X.A (.compLoop (.ListComp el [⟨tgt, itr, [], 0⟩] sc po) 0 (.ref a) (.ref D) ce) (compPost (model X.prog X.w) X.A X.xe use Qf (.ref D) t3.heap.objs.size) t4 := by
    refine compLoop_any (fun n t' => GAhead X.prog X.w X.A rows.length (cW (X.blk t3 H3 sc ce [sc0.heap.objs.size, a]) [(a, go)] rows fun j σ' H' => σ' = wipe σ (own.map (·.2)) ∧ Pv j H') (cY (X.blk t3 H3 sc ce [sc0.heap.objs.size, a]) [(a, go)] rows fun j σ' H' => σ' = wipe σ (own.map (·.2)) ∧ Pv j H')
      (cE (X.blk t3 H3 sc ce [sc0.heap.objs.size, a]) [(a, go)] rows fun j σ' H' => σ' = wipe σ (own.map (·.2)) ∧ Pv j H') gn n t') ?_ rows.length ah
    intro n t5 ah5
    refine ahead_next (X := X.blk t3 H3 sc ce [sc0.heap.objs.size, a]) calm (by have := hr.dp; show X.A.depth < _; omega) isg ma ah5 (fun σ' H6 t6 K6 w6 => ?_) fun j M σ' H6 p row t6 k' l' c' q' fs' hrow hpn K6 ap w6 hg6 cont => ?_
    · obtain ⟨rfl, w6⟩ := w6
      have J7 : Inv X pn σ H6 t6 := J3.call' (ch := [sc0.heap.objs.size, a]) K6.os K6.base K6.hok K6.bare
        fun b hb => ⟨(fp3 b hb).1.2.2.2.1, (fp3 b hb).1.2.1, (fp3 b hb).1.2.2.2.2.1, (fp3 b hb).1.2.2.2.2.2⟩
      have nC : H6 t3.heap.objs.size = none := by have z : H6 ce.locals = none := K6.free; rw [cL] at z; exact z
      obtain ⟨mm, hN, _⟩ := K6.loc
      have hN : t6.heap.Ns ce.locals mm := hN
      rw [cL] at hN
      exact fin D t3.heap.objs.size t6 mm H6 J7 (done H6 w6) hN (J3.fpOk (Nat.le_refl _) nC)
    · obtain ⟨rfl, w6⟩ := w6
      have ega6 : t6.heap.get? a = some go := (K6.pin (a, go) (List.mem_append_right _ (List.mem_append_left _ ma))).1
      refine go_of ega6 gc gd (by decide) ?_
      refine thnF (thnB hxB K6.bare (pg'.run _ (lulled t6) (wipe σ (own.map (·.2))) (upd H6 p (.tup row)) (.ref p) (.ref p) _ (inv_gens K6 (lulled_bare K6.bare)) rfl (step j row H6 hrow w6 p hpn)) fun _ t7 G ⟨σ7, H7, K7, hw7, q7⟩ hG sl7 => ?_) fun _ _ z => z
      have K7' := inv_gens' K7 (hG K7.bare)
      refine wpAny_tests_nil ?_
      rw [if_pos rfl]
      refine thnF (thnB hxB K7'.bare (pe'.run _ (lulled t7) σ7 H7 _ (inv_gens K7' (lulled_bare K7'.bare)) q7) fun y t8 G8 ⟨yv, H8, K8, r8, acc, hD8, hz8, nx⟩ hG8 sl8 => ?_) fun _ _ z => z
      have K8' := inv_gens' K8 (hG8 K8.bare)
      have hg8 := sl8 gn _ _ _ _ _ _ (sl7 gn _ _ _ _ _ _ hg6)
      refine thnF (thnB hxB K8'.bare (app_ok (X := X.blk t3 H3 sc ce [sc0.heap.objs.size, a]) (E := fun _ _ => False) (Q := fun _ s' => Inv (X.blk t3 H3 sc ce [sc0.heap.objs.size, a]) ([(a, go)] ++ M) σ7 (upd H8 D (.lst (acc ++ [yv]))) s') (inv_gens K8' (lulled_bare K8'.bare)) hD8 hz8 r8 fun t9 K9 => K9) fun _ t9 G9 K9 hG9 sl9 => ?_) fun _ _ z => z
      have K9' := inv_gens' K9 (hG9 K9.bare)
      have hl : (wipe σ (own.map (·.2))).length = σ7.length := by rw [← hw7]; exact wipe_length _ _
      exact cont t9 (sl9 gn _ _ _ _ _ _ hg8) ⟨_, _, K9'.weak hl (fun j v e => by rw [← hw7] at e; exact (wipe_some e).1), ap, rfl, nx⟩
  exact codeAny_compStart_list loop (wpAny_pyIter_gen (isg _ (h4 _ _ ega)) loop)
theorem pe_lcGn {k : Nat} {el tgt itr : Expr} {sc : Scope} {own : List (Str × Nat)} {po : Pos} {tg : TGn2} {g : L2.TG} {te : TE} (calm : X.calm = true) (nodup : X.N.Nodup) (hr : Room (k + 1) X.A) (pi : PGn X k itr tg) (ok : BlkOk X.N X.env.scope sc own)
    (pg : ∀ (t : Shared) (H : Hp) (C : Addr) (cl : List (Str × Addr)) (fp : List Addr), PG (X.blk t H sc (compEnvC sc cl C X.env) fp) tgt g)
    (pe : ∀ (t : Shared) (H : Hp) (C : Addr) (cl : List (Str × Addr)) (fp : List Addr), PE (X.blk t H sc (compEnvC sc cl C X.env) fp) el te)
    (fo : ∀ x, foldedSetIterable itr X.env x = pure x := by intro _; rfl) : PE X (.ListComp el [⟨tgt, itr, [], 0⟩] sc po) (tLcGn tg g te (own.map (·.2))) := by
  refine ⟨fun pn t σ H Q J rd => ?_⟩
  rw [eval_ListComp]
  refine lcG_core calm nodup hr J pi ok pg pe fo rd fun D C t' m H' K q hn ⟨f0, f1, f2, f3, f4, f5⟩ => ⟨m, hn, fun h'' sb => ?_⟩
  exact ⟨.ref D, H', K.turned (t' := t'.toks) (fun b u hb e => (sb.2 b hb).trans e) f0 f1 f3 f4 f5, rfl, q⟩
/-- ys = [..] over a generator, on one line, ys a local -/
theorem ps_setLcGn {k i : Nat} {nm : Str} {np : Pos} {el tgt itr : Expr} {sc : Scope} {own : List (Str × Nat)} {po sp : Pos} {tg : TGn2} {g : L2.TG} {te : TE} (calm : X.calm = true) (nodup : X.N.Nodup) (hnm : X.N[i]? = some nm) (loc : X.env.scope.names.lookup nm = some .local)
    (hsw : swapsWith (.ListComp el [⟨tgt, itr, [], 0⟩] sc po) (some (.Name nm np)) sp.line X.env = pure true) (hr : Room (k + 1) X.A) (pi : PGn X k itr tg) (ok : BlkOk X.N X.env.scope sc own)
    (pg : ∀ (t : Shared) (H : Hp) (C : Addr) (cl : List (Str × Addr)) (fp : List Addr), PG (X.blk t H sc (compEnvC sc cl C X.env) fp) tgt g)
    (pe : ∀ (t : Shared) (H : Hp) (C : Addr) (cl : List (Str × Addr)) (fp : List Addr), PE (X.blk t H sc (compEnvC sc cl C X.env) fp) el te)
    (fo : ∀ x, foldedSetIterable itr X.env x = pure x := by intro _; rfl) : PS X (.Assign [.Name nm np] (.ListComp el [⟨tgt, itr, [], 0⟩] sc po) sp) (tAsg (tLcGn tg g te (own.map (·.2))) (gName i)) := by
  refine ⟨fun pn t σ H Dn J rd => ?_⟩
  rw [exec_Assign_Name_used _ _ _ _ hsw]
  refine wpAny_bind (wpAny_standAt (wpAny_bind ?_))
  show wpAny _ X.A (do let _ ← comprehension (.ListComp el [⟨tgt, itr, [], 0⟩] sc po) sc X.env (firstIterPos [⟨tgt, itr, [], 0⟩] po) (newList []) false (eval itr X.env) (some (assign (.Name nm np) X.env))) _ _ t
  have rd : tLcGn tg g te (own.map (·.2)) σ H (fun v G => gName i v σ G Dn.nx) := rd
  refine wpAny_bind (thn (lcG_core (Qf := fun _ u => SP X pn Dn .next u) calm nodup hr J pi ok pg pe fo rd fun L C u m G K q hn fpC => ?_) fun _ u z => wpAny_pure (wpAny_pure z))
  show wpAny _ _ (assign (.Name nm np) X.env (.ref L)) _ _ _
  refine wpAny_assign_Name (store_ok2 (v := V.ref L) K nodup hnm (.inl loc) rfl (fun u2 K2 ⟨b, sb, hb⟩ => ?_) (.inr loc))
  obtain ⟨f0, f1, f2, f3, f4, f5⟩ := fpC
  have ne : C ≠ b := by
    rcases hb with z | z
    · rw [z]; exact f1
    · exact fun e => f4 nm b z e.symm
  exact ⟨m, hn.sameBut sb ne, fun h3 sb3 => ⟨_, G, K2.turned (t' := u2.toks) (fun b o hb e => (sb3.2 b hb).trans e) f0 f1 f3 f4 f5, q⟩⟩
end
end GnX
namespace Sw
open PySem PySem.Spec PyProof.Rows L2 Evl LamX NdefX
/-! ### an own class whose __init__ begins with super().__init__(..) of an own class -/
structure SupO (P : Program) (K : PySem.W.Frag) (qual : Str) (st : Stmt) (f : Addr) (fd : FuncData) (cda cc D f2 : Addr) : Prop where
  ex : ∃ (oc : Value) (od : Option Addr) (dV kV doc pm : Value) (an : Option Addr) (ct : Value) (osl : Array (Option Value)), fd = PySem.W.ksFn "__init__" qual (L2.defArgs st) (L2.defBody st) (L2.defScope st) dV kV doc pm an (.ref cda) ct cc ∧ K.lookup f = some ⟨oc, od, .func fd, osl⟩ ∧ PySem.W.codeIn K (.ref cda) qual = true
  code : ∃ (oc : Value) (od : Option Addr) (vs : Array Value) (sl : Array (Option Value)) (file : Str) (tf : Tok), K.lookup cda = some ⟨oc, od, .fields vs, sl⟩ ∧ vs[2]? = some (.str file tf) ∧ ((P.main.file : Str) == file) = true
  cell : ∃ (oc : Value) (od : Option Addr) (sl : Array (Option Value)), K.lookup cc = some ⟨oc, od, .cell (some (.ref D)), sl⟩
  any : PySem.W.nsIn K cStatics "thirdparty.any" = some none
  sup : PySem.W.ks_superIn K D D "__init__" = some (some (.ref f2))
  ty : PySem.W.typeIn K (.ref f2) = some (.type "function")
  fi : PySem.W.fnIn K f2 = true
  sub : PySem.W.mroIn K D (.ref D) = some true
  isc : PySem.W.isClsIn K D = true
  top : (P.main.scope.names.lookup ("super" : Str)).isSome = false
theorem sup_ownG {CX CX2 : CXT} {P : Program} {w : World} {K : PySem.W.Frag} {mg : Str → Option Value} {base : Heap} {k : Nat} {f f2 cda cc D : Addr} {fd : FuncData} {qual : Str} {st : Stmt} {N ps : List Str} {sp sp2 : Sp} {ar : Arg} {x : Expr} {rest : List Stmt} {p0 p1 p2 pos1 pos2 : Pos} {pl : Sem Bool}
    (F : SupO P K qual st f fd cda cc D f2) (F2 : FnR P w K mg base CX2 k f2 sp2) (hst : L2.defBody st = .Expr (.Call (.Attribute (.Call (.Name "super" p0) [] [] p1) "__init__" p2) [x] [] pos1) pos2 :: rest) (S : NScope N ps ["__class__"] (L2.defScope st))
    (hself : ((L2.defArgs st).posonlyargs ++ (L2.defArgs st).args).head? = some ar) (hN0 : N[0]? = some ar.arg) (hka : (L2.defScope st).names.lookup ar.arg = some .local) (hks : (L2.defScope st).names.lookup ("super" : Str) = some .globalImplicit) (hmg : mg "super" = none)
    (hpl : ∀ env : Env, eval (.Call (.Attribute (.Call (.Name "super" p0) [] [] p1) "__init__" p2) [x] [] pos1) env = (do
      let ov ← attributeBase (.Call (.Name "super" p0) [] [] p1) "__init__" env (eval (.Call (.Name "super" p0) [] [] p1) env)
      standAt p2.atName
      let (f, first) ← holding [ov] (getMethod ov "__init__" pl)
      callWith pos1 f first (backTo pos1 (starEach [x] env)) [])) (hsw : ∀ (l : Nat) (env : Env), swapsWith (.Call (.Attribute (.Call (.Name "super" p0) [] [] p1) "__init__" p2) [x] [] pos1) none l env = pure false) (hsx : ∀ env : Env, starEach [x] env = (false, eval x env) :: starEach [] env)
    (len : ∀ vs H Q E, sp vs H Q E → vs.length = ps.length)
    (hbody : ∀ (A : Around) (outer : List Env) (s : Shared) (H : Hp) (vs : List V) (Q : VK) (E : XK), Room k (A.deeper (envF ⟨"__init__", qual, L2.defArgs st, L2.defBody st, L2.defScope st, [("__class__", cc)], cda⟩ f s.heap.objs.size)) → sp vs H Q E →
      ∃ (ta : TA) (tr : TS) (a dx : Addr) (fs : List (Str × V)) (ws : List V) (E2 : XK), Passes CX2 (ncx CX P w K mg base N ⟨"__init__", qual, L2.defArgs st, L2.defBody st, L2.defScope st, [("__class__", cc)], cda⟩ f A outer s H E) E2 ∧ PA (ncx CX P w K mg base N ⟨"__init__", qual, L2.defArgs st, L2.defBody st, L2.defScope st, [("__class__", cc)], cda⟩ f A outer s H E) [x] ta ∧ PSs (ncx CX P w K mg base N ⟨"__init__", qual, L2.defArgs st, L2.defBody st, L2.defScope st, [("__class__", cc)], cda⟩ f A outer s H E) rest tr ∧
        vs = .ref a :: ws ∧ H a = some (.ins D dx fs) ∧ ta (startF N vs [none]) H (fun us H1 => sp2 (.ref a :: us) H1 (fun _ H2 => tr { nx := fun _ H' => Q .non H', rt := Q } (startF N vs [none]) H2) E2)) :
    FnOk P w K mg base CX (k + 1) f fd ps sp := by
  obtain ⟨oc, od, dV, kV, doc, pm, an, ct, osl, rfl, lk, hcd⟩ := F.ex
  obtain ⟨oc1, od1, cvs, sl1, file, tf, hcode, hvs, hfile⟩ := F.code
  obtain ⟨oc2, od2, sl2, hcell⟩ := F.cell
  obtain ⟨cdD, hcl⟩ := Option.isSome_iff_exists.mp (show (PySem.W.clsIn K D).isSome = true from F.isc)
  obtain ⟨oD, lD, dD⟩ : ∃ oD, K.lookup D = some oD ∧ oD.data = .cls cdD := by
    have z := hcl
    unfold PySem.W.clsIn at z
    split at z
    · rename_i c d cd' sl ho
      cases z
      exact ⟨_, ho, rfl⟩
    · cases z
  refine ⟨len, fun A outer s H args us vs Q E hr e0 hb r hsp => ?_⟩
  have hl := len _ _ _ _ hsp
  have KX : K.In s.heap := e0.mod.kin.keeps fun b o e => (e0.bs b o e).1
  have lim : s.heap.NoLimit := e0.mod.nolimit.keeps fun b o e => (e0.bs b o e).1
  have kc : (L2.defScope st).names.lookup ("__class__" : Str) = some .free := S.frk _ (by simp)
  refine ks_codeAny_call_defAt (body := .Expr (.Call (.Attribute (.Call (.Name "super" p0) [] [] p1) "__init__" p2) [x] [] pos1) pos2 :: rest) (binds := ps.zip us) hr.depth (KX _ _ lk) rfl lim (PySem.W.codeRec_of KX hcd) (by rw [← hst]) hb S.nocell (fun ⟨n, v⟩ hy => S.par n (List.of_mem_zip hy).1) (fun h₁ hns kp => ?_) S.co S.gen S.kind
  obtain ⟨ta, tr, a, dx, fs, ws, E2, hpass, hx, hrest, rfl, ea, hq⟩ := hbody A outer s H vs Q E (hr.deeper _) hsp
  have hlk : ∀ (y : Str) (c : Addr), List.lookup y [(("__class__" : Str), cc)] = some c → y = "__class__" ∧ c = cc := fun y c e => by
    cases h : (y == ("__class__" : Str)) with
    | true => simp only [List.lookup, h, Option.some.injEq] at e; exact ⟨beq_iff_eq.mp h, e.symm⟩
    | false => simp [List.lookup, h] at e
  have cells : CellsAt [(("__class__" : Str), cc)] ["__class__"] [none] s.heap H := by
    refine ⟨rfl, fun y c e => ?_, fun y z c e1 e2 => (hlk y c e1).1.trans (hlk z c e2).1.symm, fun i y e => ?_⟩
    · rw [(hlk y c e).2]; exact ⟨(e0.bs _ _ (e0.mod.kin _ _ hcell)).2, _, _, KX _ _ hcell, rfl⟩
    · match i, e with
      | 0, e => cases e; exact ⟨cc, rfl, fun v hv => by cases hv⟩
  have I : Inv (ncx CX P w K mg base N ⟨"__init__", qual, L2.defArgs st, L2.defBody st, L2.defScope st, [("__class__", cc)], cda⟩ f A outer s H E) [] (startF N (V.ref a :: ws) [none]) H { s with heap := h₁, toks := s.toks + (ps.zip us).length } := inv_startN (F := ⟨"__init__", qual, L2.defArgs st, L2.defBody st, L2.defScope st, [("__class__", cc)], cda⟩) S hr.hd e0 hl r cells hns kp
  refine ks_wpAt_execs_cons (ks_wpAt_Expr_any (ks_wpAt_MethodCall (pl := pl) ?_ (hpl _)) I.quiet (hsw _ _))
  obtain ⟨_, _, _, ho, _⟩ := I.hok a _ ea
  obtain ⟨mb, hb1, hb2⟩ := I.mod.blt
  have hD := I.kIn _ _ lD
  refine ks_wpAt_super_base hks kc rfl rfl (I.kIn _ _ lk) rfl hself rfl (I.kIn _ _ hcode) rfl hvs hfile F.top ?_
  refine PySem.W.ks_loadName_global S.kind hks (Calls.loadGlobal_builtin (I.mod.glob.keeps I.bk) hmg (hb1.keeps I.bk) ((hb2 _ (by decide)).trans (by first | boot_by_name | rfl | kernel_rfl)) ⟨rfl, ?_⟩)
  refine wpAny_loadName_free S.kind kc rfl ⟨_, I.kIn _ _ hcell, rfl⟩ ?_
  obtain ⟨m, hn, hlo⟩ := I.loc
  obtain ⟨u, ru, lku⟩ := hlo 0 ar.arg (.ref a) hN0 rfl (.inl hka)
  obtain rfl : u = Value.ref a := ru
  have hv : m ar.arg = some (Value.ref a) := by
    rcases lku with ⟨_, z⟩ | ⟨z, _⟩
    · exact z
    · have z' : (L2.defScope st).names.lookup ar.arg = some .cell ∨ (L2.defScope st).names.lookup ar.arg = some .free := z
      rw [hka] at z'; rcases z' with z' | z' <;> cases z'
  refine wpAny_loadName_local S.kind hka hn hv ?_
  refine ks_wpAny_isType_cls hD dD ⟨rfl, ?_⟩
  refine ks_wpAny_call_super hD dD ho rfl (fun c z => by cases z) (PySem.W.looks_mroIn I.kIn F.sub) (fun h' eso kk => ?_)
  have I1 := I.kept (t' := s.toks + (ps.zip us).length) kk
  have ne : a ≠ D := fun z => by
    have := (I.bs D _ (e0.mod.kin _ _ lD)).2
    rw [← z, ea] at this
    cases this
  have hsup : PySem.W.alongIn K "__init__" ((cdD.mro.dropWhile (· != Value.ref D)).drop 1) = some (some (.ref f2)) := by
    have z := F.sup
    unfold PySem.W.ks_superIn at z
    rw [hcl] at z
    exact z
  obtain ⟨of, lf, hofc⟩ : ∃ of, K.lookup f2 = some of ∧ of.cls = .type "function" := by
    have ht' : (K.lookup f2).map (·.cls) = some (.type "function") := F.ty
    cases z : K.lookup f2 with
    | none => rw [z] at ht'; cases ht'
    | some of => rw [z] at ht'; exact ⟨of, rfl, Option.some.inj ht'⟩
  refine ks_wpAny_getMethod_super eso (PySem.W.looks_opaque I1.kIn F.any) (l₀ := cdD.mro) (fun A Q E s k q => wpAny_bind ((PySem.W.looks_clsIn I1.kIn hcl) A _ E s k (wpAny_pure q))) rfl I1.kIn hsup (I1.kIn _ _ lf) hofc ne rfl ?_
  have I2 := I1.kept (t' := s.toks + (ps.zip us).length + 1) (h' := h'.push (PySem.W.methodObj (.ref f2) (.ref a))) (fun b o e => Heap.get?_push_of_some _ e)
  have gu : (h'.push (PySem.W.methodObj (.ref f2) (.ref a))).get? h'.objs.size = some (PySem.W.methodObj (.ref f2) (.ref a)) := Heap.get?_push_size _ rfl
  have nl : h'.objs.size ≠ s.heap.objs.size := Nat.ne_of_gt I1.lt
  have I3 := ClX.pin_new (t' := s.toks + (ps.zip us).length + 1) I1 (h' := h'.push (PySem.W.methodObj (.ref f2) (.ref a))) (fun _ _ z => Heap.get?_push_of_some _ z) (Nat.le_refl _) gu (fun v z => nomatch z)
  have nb : (ncx CX P w K mg base N ⟨"__init__", qual, L2.defArgs st, L2.defBody st, L2.defScope st, [("__class__", cc)], cda⟩ f A outer s H E).base.get? h'.objs.size = none := by
    cases z : base.get? h'.objs.size with
    | none => exact z
    | some o => exact absurd (Heap.lt_size (I1.bk _ _ z)) (Nat.lt_irrefl _)
  have hx1 := hx.run pos1 _ _ _ _ _ I3 hq
  refine ClX.callwith_cm I3 nb F.fi (wpAny_mono hx1 (fun vv s1 hs1 => ?_) fun e s' z => z) (hsx _) rfl
  obtain ⟨vs1, H1, J1, r1, q1⟩ := hs1
  have pu := (J1.pin _ (List.mem_append_right _ List.mem_cons_self)).1
  refine ⟨⟨pu, J1.kIn⟩, ?_⟩
  have z := ClX.run_cm F2 (hr.deeper _) hpass J1 r1 q1
  refine wpAny_mono z (fun v s2 hs2 => ?_) fun _ _ z => z
  obtain ⟨y, H2, J2, ry, q2⟩ := hs2
  refine wpAt_of_wpAny (wpAny_mono (hrest.run [] _ _ _ _ J2 q2) (fun fl s' hs => ?_) fun e s' z => z)
  have fin : ∀ {σ' : L2.St} {H' : Hp} {v : V} {u : Value}, Inv (ncx CX P w K mg base N ⟨"__init__", qual, L2.defArgs st, L2.defBody st, L2.defScope st, [("__class__", cc)], cda⟩ f A outer s H E) [] σ' H' s' → RelV v u → Q v H' → CE outer P w H s Q u s' :=
    fun {σ' H' v u} J rv q => ⟨v, H', J.os, J.bare, J.base, J.hok, rv, q⟩
  cases fl with
  | ret u =>
    obtain ⟨v, σ', H', J, rv, q⟩ := hs
    exact fin J rv q
  | next =>
    obtain ⟨σ', H', J, q⟩ := hs
    exact fin (v := V.non) (u := Value.none) J rfl q
  | brk =>
    obtain ⟨_, _, _, q⟩ := hs
    exact False.elim q
  | cont =>
    obtain ⟨_, _, _, q⟩ := hs
    exact False.elim q
theorem sup_own {CX : CXT} {P : Program} {w : World} {K : PySem.W.Frag} {mg : Str → Option Value} {base : Heap} {k : Nat} {f f2 cda cc D : Addr} {fd : FuncData} {qual : Str} {st : Stmt} {N ps : List Str} {sp sp2 : Sp} {ar : Arg} {x : Expr} {rest : List Stmt} {p0 p1 p2 pos1 pos2 : Pos} {pl : Sem Bool}
    (F : SupO P K qual st f fd cda cc D f2) (F2 : FnR P w K mg base CX0 k f2 sp2) (hst : L2.defBody st = .Expr (.Call (.Attribute (.Call (.Name "super" p0) [] [] p1) "__init__" p2) [x] [] pos1) pos2 :: rest) (S : NScope N ps ["__class__"] (L2.defScope st))
    (hself : ((L2.defArgs st).posonlyargs ++ (L2.defArgs st).args).head? = some ar) (hN0 : N[0]? = some ar.arg) (hka : (L2.defScope st).names.lookup ar.arg = some .local) (hks : (L2.defScope st).names.lookup ("super" : Str) = some .globalImplicit) (hmg : mg "super" = none)
    (hpl : ∀ env : Env, eval (.Call (.Attribute (.Call (.Name "super" p0) [] [] p1) "__init__" p2) [x] [] pos1) env = (do
      let ov ← attributeBase (.Call (.Name "super" p0) [] [] p1) "__init__" env (eval (.Call (.Name "super" p0) [] [] p1) env)
      standAt p2.atName
      let (f, first) ← holding [ov] (getMethod ov "__init__" pl)
      callWith pos1 f first (backTo pos1 (starEach [x] env)) [])) (hsw : ∀ (l : Nat) (env : Env), swapsWith (.Call (.Attribute (.Call (.Name "super" p0) [] [] p1) "__init__" p2) [x] [] pos1) none l env = pure false) (hsx : ∀ env : Env, starEach [x] env = (false, eval x env) :: starEach [] env)
    (len : ∀ vs H Q E, sp vs H Q E → vs.length = ps.length)
    (hbody : ∀ (A : Around) (outer : List Env) (s : Shared) (H : Hp) (vs : List V) (Q : VK) (E : XK), Room k (A.deeper (envF ⟨"__init__", qual, L2.defArgs st, L2.defBody st, L2.defScope st, [("__class__", cc)], cda⟩ f s.heap.objs.size)) → sp vs H Q E →
      ∃ (ta : TA) (tr : TS) (a dx : Addr) (fs : List (Str × V)) (ws : List V), PA (ncx CX P w K mg base N ⟨"__init__", qual, L2.defArgs st, L2.defBody st, L2.defScope st, [("__class__", cc)], cda⟩ f A outer s H E) [x] ta ∧ PSs (ncx CX P w K mg base N ⟨"__init__", qual, L2.defArgs st, L2.defBody st, L2.defScope st, [("__class__", cc)], cda⟩ f A outer s H E) rest tr ∧
        vs = .ref a :: ws ∧ H a = some (.ins D dx fs) ∧ ta (startF N vs [none]) H (fun us H1 => sp2 (.ref a :: us) H1 (fun _ H2 => tr { nx := fun _ H' => Q .non H', rt := Q } (startF N vs [none]) H2) E0)) :
    FnOk P w K mg base CX (k + 1) f fd ps sp :=
  sup_ownG (CX2 := CX0) F F2 hst S hself hN0 hka hks hmg hpl hsw hsx len fun A outer s H vs Q E hr hsp => by
    obtain ⟨ta, tr, a, dx, fs, ws, h1, h2, h3, h4, h5⟩ := hbody A outer s H vs Q E hr hsp
    exact ⟨ta, tr, a, dx, fs, ws, E0, pass0, h1, h2, h3, h4, h5⟩
/-- a tuple times a number: 1 is the tuple itself -/
def rRep1 (K : PySem.W.Frag) : R2 := fun x y H Q => ∃ l k xs, x = .ref l ∧ y = .int k ∧ SqT K H l xs ∧ xs ≠ [] ∧ 1 ≤ k ∧ k ≤ 1000 ∧ xs.length ≤ 1000 ∧ (k = 1 → Q (.ref l) H) ∧ ∀ p, H p = none → Q (.ref p) (upd H p (.tup (List.replicate k.toNat xs).flatten))
section
variable {X : Cx}
theorem tuple_mul1 (l : Addr) (items : Array Value) (n : Nat) (dd : Option Addr) (sl : Array (Option Value)) (u : Tok) :
    Meets (Builtin.«tuple.__mul__» ⟨[.ref l, .int 1 u], []⟩) (fun _ R s => s.heap.get? l = some { cls := .type "tuple", dict := dd, data := .seq items n, slots := sl } ∧ R (.ok (.ret (Value.ref l))) s) :=
  .of_wp fun prog w A R s h => by
    obtain ⟨hp, g, d, tk, os⟩ := s
    obtain ⟨hl, h⟩ := h
    have f1 := AutoSeq1.idx_int
    have c1 : (items.isEmpty || ((1 : Int) == 1)) = true := by simp
    wp_walk using wpAny_loadPart' hl
    repeat (first
      | (refine wpAny_ite_false (by decide) ?_; wp_walk using wpAny_loadPart' hl)
      | (refine wpAny_ite_true (by rw [c1]; rfl) ?_; wp_walk using wpAny_loadPart' hl)
      | (refine wpAny_ite_true (by simp) ?_; wp_walk using wpAny_loadPart' hl))
    exact ⟨_, rfl, h⟩
theorem op_rep1 : OpR X (binaryOp .Mult) (rRep1 X.K) := by
  intro pins s σ H x y v u Q I rx ry h
  obtain ⟨l, k, xs, rfl, rfl, hT, hne, h1, h2, hz, q1, q⟩ := h
  by_cases hk : k = 1
  · subst hk
    cases rx
    obtain ⟨t, rfl⟩ := ry
    obtain ⟨its, r, ⟨⟨cls, dd, data, sl⟩, ho, hc, n, hd⟩, hs⟩ := I.tuple hT
    simp only at hc hd
    subst hc hd
    exact wpAny_binaryOp_repeat_ref (T := "tuple") (U := "int") (by decide) ⟨_, ho, rfl⟩ (fun s' => typeIs_int s' 1 t) noFill_tuple_mul F.fills_int_mul F.slot_int_rmul repeat_tuple F.slot_int_index.lookup
      (call_meets F.slot_int_rmul (typeIs_int s 1 t) F.entry_int_rmul (F.args_int_rmul_2 _ _) (int_rmul_tuple 1 t l its.toArray n dd sl)
        ⟨ho, rfl, ⟨_, ho, rfl⟩, call_meets F.slot_tuple_mul ⟨_, ho, rfl⟩ F.entry_tuple_mul (F.args_tuple_mul_2 _ _) (tuple_mul1 l its.toArray n dd sl t) ⟨ho, ⟨.ref l, H, I, rfl, q1 rfl⟩⟩⟩)
  · exact op_repT pins s σ H _ _ v u Q I rx ry ⟨l, k, xs, rfl, rfl, hT, hne, by omega, h2, hz, q⟩
theorem op_rep1K (K : PySem.W.Frag) (h : X.K = K) : OpR X (binaryOp .Mult) (rRep1 K) := h ▸ op_rep1
theorem op_repTK (K : PySem.W.Frag) (h : X.K = K) : OpR X (binaryOp .Mult) (rRepT K) := h ▸ op_repT
end
end Sw
namespace GnX
open PySem PySem.Spec PyProof.Rows L2 GenW Evl
/-- a generator def of the text -/
theorem fun_gn {P : Program} {w : World} {K : PySem.W.Frag} {mg : Str → Option Value} {base : Heap} {x qual : Str} {st : Stmt} {f : Addr} {fd : FuncData} {N ps : List Str} {k : Nat} {sp : SpGn} (F : L2.Fun K x qual st f fd) (S : GScope N ps (L2.defScope st)) (nc : ∀ y ∈ (L2.defScope st).names, y.2 ≠ .cell ∧ y.2 ≠ .free)
    (len : ∀ vs H cn rows, sp vs H cn rows → vs.length = ps.length) (hcn : ∀ vs H cn rows, sp vs H cn rows → Clo cn ∧ Knows cn H)
    (hbody : ∀ (cdv : Value) (A : Around) (outer : List Env) (n0 : Nat) (H : Hp) (vs : List V) (cn : Kn) (rows : List (List V)) (WK : Nat → Pins → Shared → Prop) (CY : Nat → Pins → Value → Shared → Prop) (CE : Shared → Prop), Room k (A.deeper (envOfC qual (L2.defScope st) n0 f cdv)) → sp vs H cn rows →
      ∃ t, GSs2 ⟨plOf P w K mg base N qual (L2.defScope st) f cdv A outer n0, cn, rows, WK, CY, CE⟩ (L2.defBody st) t ∧ ∀ H0, Knows cn H0 → t { nx := fun j _ H' => j = rows.length ∧ Knows cn H' } 0 (start N vs) H0) : GFact P w K mg base (k + 1) f fd ps sp := by
  obtain ⟨oc, od, kV, doc, pm, an, cdv, ct, osl, rfl, lk, hcd⟩ := F.ex
  exact gfact_of lk hcd S nc len hcn fun A outer n0 H vs cn rows WK CY CE hr hsp => hbody cdv A outer n0 H vs cn rows WK CY CE hr hsp
theorem Knows.ex {cn : Kn} {H H' : Hp} (h : Knows cn H) (e : Ex H H') : Knows cn H' := fun b u q => e b u (h b u q)
section
variable {D : GE} {k i j : Nat} {σ : L2.St} {H : Hp} {te : TE} {u : TG2} {v : V} {xs : List V}
theorem g_asg (h : Ev te σ H v) (q : ∀ H1, Ex H H1 → u D k (σ.set i (some v)) H1) : tGThen2 (tPlain2 (tAsg te (gName i))) u D k σ H := h H (Ex.refl _) _ fun H1 e => q H1 e
theorem g_asgL (h : EvL te σ H xs) (q : ∀ p H1, H p = none → Ex H H1 → H1 p = some (.lst xs) → u D k (σ.set i (some (.ref p))) H1) : tGThen2 (tPlain2 (tAsg te (gName i))) u D k σ H := h H (Ex.refl _) _ fun p H1 n e hp => q p H1 n e hp
theorem g_asg2 (h : Ev te σ H v) (q : ∀ H1, Ex H H1 → u D k ((σ.set i (some v)).set j (some v)) H1) : tGThen2 (tPlain2 (tAsg2 te (gName i) (gName j))) u D k σ H := h H (Ex.refl _) _ fun H1 e => q H1 e
theorem g_expr (h : Ev te σ H v) (q : ∀ H1, Ex H H1 → u D k σ H1) : tGThen2 (tPlain2 (fun D σ H => te σ H fun _ H1 => D.nx σ H1)) u D k σ H := h H (Ex.refl _) _ fun H1 e => q H1 e
/-- a row of numbers handed out, one list goes on -/
theorem g_yield {B : GBd} {row xs : List V} {l : Addr} (hk : k < B.rows.length) (h : EvU te σ H row) (hrow : B.rows[k]? = some row) (hkn : Knows B.cn H) (hl : H l = some (.lst xs)) (hlc : B.cn.lookup l = none)
    (q : ∀ H2, Knows B.cn H2 → H2 l = some (.lst xs) → D.nx (k + 1) σ H2) : tGYield2 B te D k σ H := by
  refine ⟨hk, h H (Ex.refl _) _ fun p H1 n e hp => ⟨row, p, [(l, HO.lst xs)], hrow, rfl, hp, ?_, hkn.ex e, fun q hq => ?_, fun H2 k2 o2 => ?_⟩⟩
  · cases z : B.cn.lookup p with
    | none => rfl
    | some w =>
      have := hkn p w z
      rw [n] at this; cases this
  · obtain rfl : q = (l, HO.lst xs) := List.mem_singleton.mp hq
    exact ⟨⟨xs, rfl⟩, e _ _ hl, hlc⟩
  · refine q H2 k2 (o2 (l, HO.lst xs) (List.mem_singleton.mpr rfl) ?_)
    show (B.cn ++ [(l, HO.lst xs)]).lookup l = some (.lst xs)
    rw [List.lookup_append, hlc]
    simp
/-- a new list is none of the consumer's things -/
theorem new_out {cn : Kn} {H : Hp} (h : Knows cn H) {p : Addr} (n : H p = none) : cn.lookup p = none := by
  cases z : cn.lookup p with
  | none => rfl
  | some w =>
    have := h p w z
    rw [n] at this; cases this
end
end GnX
namespace GnX
open PySem PySem.Spec PyProof.Rows L2 GenW
/-! ### a generator whose first waking raises -/
def RZ (P : Program) (w : World) (outer : List Env) (H : Hp) (s : Shared) (E : XK) (a : Addr) (g : Nat) : GenEnd := fun n s0 r s1 => ((r = .ok (.ret .none) ∨ r = .ok .next) ∧ (fun (_ : Nat) (_ _ : Shared) => False) n s0 s1) ∨ ∃ e, r = .error e ∧ (fun e s1 => CX P w outer H s E e s1 ∧ s1.heap.IsGen a g) e s1
def YZ : Protocol := fun _ _ _ _ _ => False
def GRz (P : Program) (w : World) (k : Nat) (outer : List Env) (H : Hp) (s : Shared) (E : XK) (u : Value) (s' : Shared) : Prop :=
  ∃ (a : Addr) (g : Nat) (c : Code), u = .ref a ∧ s.heap.objs.size ≤ a ∧ a < s'.heap.objs.size ∧ s'.heap.IsGen a g ∧ s'.gens[g]? = some (.fresh c) ∧ s'.os = s.os ∧ AllBare s'.gens ∧ s'.heap.NoLimit ∧ (∀ b o, s.heap.get? b = some o → s'.heap.get? b = some o) ∧
    ∀ (A : Around) (s2 : Shared) (n : Nat), Room k A → A.frames = some outer → (∀ b o, s'.heap.get? b = some o → s2.heap.get? b = some o) → s2.os = s.os → AllBare s2.gens → Seg (model P w) A (RZ P w outer H s E a g) YZ n s2 c ((model P w).den c) [] s2
/-- statements one of which raises -/
structure PZ (X : Cx) (st : List Stmt) (t : L2.St → Hp → Prop) : Prop where
  run : ∀ (pins : Pins) (s : Shared) (σ : L2.St) (H : Hp), Inv X pins σ H s → t σ H → wpAny (model X.prog X.w) X.A (execs st X.env) (fun _ _ => False) X.xe s
def tHere (t : TS) : L2.St → Hp → Prop := fun σ H => t { nx := fun _ _ => False, rt := fun _ _ => False } σ H
def tNxt (t : TS) (u : L2.St → Hp → Prop) : L2.St → Hp → Prop := fun σ H => t { nx := u, rt := fun _ _ => False } σ H
section
variable {X : Cx} {st : Stmt} {rest : List Stmt} {t : TS} {u : L2.St → Hp → Prop}
theorem pz_next (h : PS X st t) (r : PZ X rest u) : PZ X (st :: rest) (tNxt t u) := by
  refine ⟨fun pins s σ H I q => ?_⟩
  refine wpAny_execs_cons (thn (h.run pins s σ H _ I q) fun f s1 z => ?_)
  cases f with
  | next => obtain ⟨σ', H', I', z⟩ := z; exact r.run pins s1 σ' H' I' z
  | brk => obtain ⟨_, _, _, z⟩ := z; exact z.elim
  | cont => obtain ⟨_, _, _, z⟩ := z; exact z.elim
  | ret v => obtain ⟨_, _, _, _, _, z⟩ := z; exact z.elim
theorem pz_here (h : PS X st t) : PZ X (st :: rest) (tHere t) := by
  refine ⟨fun pins s σ H I q => ?_⟩
  refine wpAny_execs_cons (thn (h.run pins s σ H _ I q) fun f s1 z => ?_)
  cases f with
  | next => obtain ⟨_, _, _, z⟩ := z; exact z.elim
  | brk => obtain ⟨_, _, _, z⟩ := z; exact z.elim
  | cont => obtain ⟨_, _, _, z⟩ := z; exact z.elim
  | ret v => obtain ⟨_, _, _, _, _, z⟩ := z; exact z.elim
end
abbrev SpZ := List V → Hp → XK → Prop
structure GFz (P : Program) (w : World) (K : PySem.W.Frag) (mg : Str → Option Value) (base : Heap) (k : Nat) (f : Addr) (fd : FuncData) (ps : List Str) (sp : SpZ) : Prop where
  len : ∀ vs H E, sp vs H E → vs.length = ps.length
  run : ∀ (A : Around) (outer : List Env) (s : Shared) (H : Hp) (args : Args) (us : List Value) (vs : List V) (E : XK), Room k A → Env0 P w K mg base A outer s H → BindsTo s fd args (ps.zip us) → Vals vs us → sp vs H E →
    codeAny (model P w) A (.call (.ref f) args) (fun r s' => match r with | .ok (.ret u) => GRz P w k outer H s E u s' | _ => False) s
theorem gfz_of {P : Program} {w : World} {K : PySem.W.Frag} {mg : Str → Option Value} {base : Heap} {k : Nat} {f : Addr} {name qual : Str} {params : Arguments} {body : List Stmt} {scope : Scope} {dV kV doc pm cdv ct oc : Value} {an od : Option Addr}
    {osl : Array (Option Value)} {N ps : List Str} {sp : SpZ} (lk : K.lookup f = some ⟨oc, od, .func (PySem.W.fnOf name qual params body scope dV kV doc pm an cdv ct), osl⟩) (hcd : PySem.W.codeIn K cdv qual = true) (S : GScope N ps scope)
    (len : ∀ vs H E, sp vs H E → vs.length = ps.length)
    (hbody : ∀ (A : Around) (outer : List Env) (s : Shared) (H : Hp) (vs : List V) (E : XK) (pn : Pins), Room k (A.deeper (envOfC qual scope s.heap.objs.size f cdv)) → sp vs H E →
      ∃ t, PZ (gcxOf P w K mg base N qual scope f cdv A outer s H E pn) body t ∧ t (start N vs) H) :
    GFz P w K mg base (k + 1) f (PySem.W.fnOf name qual params body scope dV kV doc pm an cdv ct) ps sp := by
  refine ⟨len, fun A outer s H args us vs E hr e0 hb r hsp => ?_⟩
  have hl := len _ _ _ hsp
  have KX : K.In s.heap := e0.mod.kin.keeps fun b o e => (e0.bs b o e).1
  have lim : s.heap.NoLimit := e0.mod.nolimit.keeps fun b o e => (e0.bs b o e).1
  have hkind : ∀ y ∈ ps.zip us, scope.names.lookup y.1 = some .local ∨ (scope.names.lookup y.1 = some .cell ∧ ((cellsFrom (s.heap.objs.size + 1) scope.names []).lookup y.1).isSome = true) := fun ⟨n, v⟩ hy => by
    rcases S.par n (List.of_mem_zip hy).1 with q | q
    · exact .inl q
    · exact .inr ⟨q, PySem.W.cellsFrom_some _ _ _ (.inl q)⟩
  refine codeAny_call_generator hr.depth (KX _ _ lk) rfl S.co S.gen rfl (PySem.W.codeRec_of KX hcd) (hb _ _ _ _ ?_)
  refine wpAny_newFunctionEnv_cells S.kind hkind fun env he t1 x => ?_
  subst he
  have limT : t1.heap.NoLimit := lim.keeps x.toInCall.keep
  refine ⟨limT, ?_⟩
  obtain ⟨h1, tk, es1, hk1⟩ := x.done
  have osT : t1.os = s.os := by rw [es1]
  have gnT : t1.gens = s.gens := by rw [es1]
  have ltT : s.heap.objs.size < t1.heap.objs.size := x.toInCall.ns.lt
  have main : ∀ (go : Obj) (nm qn : Value) (tk2 : Nat), go.cls = .type "generator" → go.data = .fields #[.int t1.gens.size 0, nm, qn] → go.slots = #[] → (∀ h : Heap, (h.push go).get? h.objs.size = some go) →
      GRz P w (k + 1) outer H s E (.ref t1.heap.objs.size) { t1 with gens := t1.gens.push (.fresh (.func body (envOfC qual scope s.heap.objs.size f cdv))), toks := tk2, heap := t1.heap.push go } := by
    intro go nm qn tk2 g1 g2 g3 g4
    have isg : ∀ h : Heap, h.get? t1.heap.objs.size = some go → h.IsGen t1.heap.objs.size t1.gens.size := fun h e => ⟨go, nm, qn, e, g1, g2, g3⟩
    refine ⟨t1.heap.objs.size, t1.gens.size, _, rfl, Nat.le_of_lt ltT, ?_, isg _ (g4 _), Array.getElem?_push_size .., osT, AllBare.push (by rw [gnT]; exact e0.bare) rfl, limT.keeps fun b o e => Heap.get?_push_of_some _ e, fun b o e => Heap.get?_push_of_some _ (x.toInCall.keep b o e), ?_⟩
    · show _ < (t1.heap.push _).objs.size
      rw [Heap.size_push]; exact Nat.lt_succ_self _
    intro Aw t2 n hrw hfr kp ho hba
    have e0w : Env0 P w K mg base Aw outer s H := ⟨hfr, e0.mod, e0.bs, e0.bsz, e0.funs, e0.frf, e0.hok, e0.bare⟩
    obtain ⟨t, ht, hq⟩ := hbody Aw outer s H vs E [(t1.heap.objs.size, go)] (hrw.deeper _) hsp
    have J1 : Inv (gcxOf P w K mg base N qual scope f cdv Aw outer s H E []) [] (start N vs) H t1 := inv_startG S hrw.hd e0w hl r x
    have kp2 : ∀ b o, t1.heap.get? b = some o → t2.heap.get? b = some o := fun b o e => kp b o (Heap.get?_push_of_some _ e)
    have J2 : Inv (gcxOf P w K mg base N qual scope f cdv Aw outer s H E []) [] (start N vs) H t2 := J1.call' (ch := []) (ho.trans osT.symm) (Un.kept kp2) (J1.hok.kept kp2) hba fun b z => by simp at z
    have J3 : Inv (gcxOf P w K mg base N qual scope f cdv Aw outer s H E [(t1.heap.objs.size, go)]) [] (start N vs) H t2 := by
      refine Inv.pinnedG J2 fun p hp => ?_
      rw [List.append_nil] at hp
      rw [List.mem_singleton.mp hp]
      exact ⟨kp _ _ (g4 _), J1.hok.fresh (Nat.le_refl _), Nat.ne_of_gt ltT, J1.nofs (Nat.le_refl _), fun v q => by rw [g2] at q; cases q⟩
    refine seg_func ?_
    refine seg_wrap ?_
    rw [over_func]
    refine wpAny_mono (ht.run [] t2 (start N vs) H J3 hq) (fun _ _ z => z.elim) fun e t3 z => ?_
    refine seg_wrap ?_
    rw [over_func]
    refine wpAny_mono (show wpAny (model P w) (Aw.deeper (envOfC qual scope s.heap.objs.size f cdv)) (leaving (envOfC qual scope s.heap.objs.size f cdv) e) (fun _ t4 => CX P w outer H s E e t4 ∧ ∀ p ∈ [(t1.heap.objs.size, go)], t4.heap.get? p.1 = some p.2) (fun _ _ => False) t3 from z) (fun _ t4 q => ?_) fun _ _ q => q.elim
    exact seg_end (.error e) (.inr ⟨e, rfl, q.1, isg _ (q.2 _ (List.mem_singleton.mpr rfl))⟩)
  exact main _ _ _ _ rfl rfl rfl fun h => Heap.get?_push_size _ rfl
/-- a generator def of the text, where it raises -/
theorem fun_gz {P : Program} {w : World} {K : PySem.W.Frag} {mg : Str → Option Value} {base : Heap} {x qual : Str} {st : Stmt} {f : Addr} {fd : FuncData} {N ps : List Str} {k : Nat} {sp : SpZ} (F : L2.Fun K x qual st f fd) (S : GScope N ps (L2.defScope st)) (len : ∀ vs H E, sp vs H E → vs.length = ps.length)
    (hbody : ∀ (cdv : Value) (A : Around) (outer : List Env) (s : Shared) (H : Hp) (vs : List V) (E : XK) (pn : Pins), Room k (A.deeper (envOfC qual (L2.defScope st) s.heap.objs.size f cdv)) → sp vs H E →
      ∃ t, PZ (gcxOf P w K mg base N qual (L2.defScope st) f cdv A outer s H E pn) (L2.defBody st) t ∧ t (start N vs) H) : GFz P w K mg base (k + 1) f fd ps sp := by
  obtain ⟨oc, od, kV, doc, pm, an, cdv, ct, osl, rfl, lk, hcd⟩ := F.ex
  exact gfz_of lk hcd S len fun A outer s H vs E pn hr hsp => hbody cdv A outer s H vs E pn hr hsp
/-- an expression whose value is such a generator -/
abbrev TGz := L2.St → Hp → Prop
structure PGz (X : Cx) (k : Nat) (e : Expr) (tg : TGz) (E : XK) : Prop where
  run : ∀ (pins : Pins) (s : Shared) (σ : L2.St) (H : Hp), Inv X pins σ H s → tg σ H → wpAny (model X.prog X.w) X.A (eval e X.env)
    (fun u s' => ∃ H1 sc E', Inv X pins σ H1 sc ∧ NoStop X.K E' ∧ (∀ cls d H', E' cls d H' → E cls d H') ∧ GRz X.prog X.w k X.stack H1 sc E' u s') X.xe s
def tCallGz (K : PySem.W.Frag) (sp : SpZ) (E : XK) (t : TA) : TGz := fun σ H => t σ H fun vs H1 => ∃ E', sp vs H1 E' ∧ NoStop K E' ∧ ∀ cls d H', E' cls d H' → E cls d H'
theorem cx_imp {P : Program} {w : World} {outer : List Env} {H : Hp} {s s' : Shared} {E E' : XK} {u : Value} (h : ∀ cls d H', E' cls d H' → E cls d H') (c : CX P w outer H s E' u s') : CX P w outer H s E u s' := by
  obtain ⟨a, B, H', cls, d, z1, z2, z3, z4, z5, z6, z7, z8⟩ := c
  exact ⟨a, B, H', cls, d, z1, z2, z3, z4, z5, z6, z7, h _ _ _ z8⟩
theorem cx_gens {P : Program} {w : World} {outer : List Env} {H : Hp} {s s' : Shared} {E : XK} {u : Value} {g : Nat} (c : CX P w outer H s E u s') : CX P w outer H s E u (s'.setGen g .finished) := by
  obtain ⟨a, B, H', cls, d, z1, z2, z3, z4, z5, z6, z7, z8⟩ := c
  exact ⟨a, B, H', cls, d, z1, z2, z3, z4, z5, z6, allBare_setGen z7 rfl, z8⟩
section
variable {X : Cx} {k : Nat} {f : Addr} {fd : FuncData} {ps : List Str} {sp : SpZ} {x : Str} {p pos : Pos} {E : XK}
theorem pgz_call {e : Expr} {es : List Expr} {t : TA} (F : GFz X.prog X.w X.K X.mg X.base k f fd ps sp) (hr : Room k X.A) (hg : Gl X x) (hm : X.mg x = some (.ref f)) (hk : PySem.W.keepIn X.K (.ref f) = true) (hb : Binds X.K fd ps [])
    (ha : PA X (e :: es) t) (hdb : (x == ("__debug__" : Str)) = false := by decide) (he : starEach (e :: es) X.env = (false, eval e X.env) :: starEach es X.env := by rfl) (hpl : (backTo pos (starEach es X.env)).any (·.1) = false := by rfl) :
    PGz X k (.Call (.Name x p) (e :: es) [] pos) (tCallGz X.K sp E t) E := by
  refine ⟨fun pins s σ H I h => ?_⟩
  refine wpAny_Call_Name_kw (ld_glob I hg hm ?_ hdb)
  refine PySem.W.callWith_K (h₀ := X.base) I.ok.mod.kin hk (thn (ha.run pos pins s σ H _ I h) fun us s1 ⟨vs, H1, I1, r, E', hs, ns, imp⟩ => ⟨I1.kIn, ?_⟩) he hpl
  have hl2 : (us ++ []).length = ps.length := by rw [List.append_nil, ← r.length]; exact F.len _ _ _ hs
  have hb2 := hb s1 us I1.kIn hl2
  rw [List.append_nil] at hb2
  refine wpAny_call (codeAny_mono (F.run X.A X.stack s1 H1 ⟨us, []⟩ us vs E' hr I1.env0 hb2 r hs) fun r s' hq => ?_)
  cases r with
  | error e => exact False.elim hq
  | ok fl =>
    cases fl with
    | ret u => exact ⟨H1, s1, E', I1, ns, imp, hq⟩
    | next => exact False.elim hq
    | brk => exact False.elim hq
    | cont => exact False.elim hq
/-- behind the call: the caller's knowledge at the generator's fall -/
theorem kin_cx {pins : Pins} {σ : L2.St} {H1 : Hp} {sc s' : Shared} {E' : XK} {e : Value} (I1 : Inv X pins σ H1 sc) (c : CX X.prog X.w X.stack H1 sc E' e s') : X.K.In s'.heap := by
  obtain ⟨a, B, H', cls, d, _, fl, _, ub, _⟩ := id c
  refine I1.ok.mod.kin.keeps fun b o eb => fl.1 b o (ub.keep b o (I1.bs b o eb).1 (I1.bs b o eb).2 fun hm => ?_)
  rcases List.mem_cons.mp (I1.stkSub b hm) with z | z
  · have h1 := Heap.lt_size eb
    have h2 := Nat.le_trans I1.ok.bsz I1.ok.above
    rw [z] at h1
    exact absurd (Nat.lt_of_lt_of_le h1 h2) (Nat.lt_irrefl _)
  · exact I1.ok.nofr eb z
def tForGz (tg : TGz) : TS := fun _ σ H => tg σ H
/-- for .. in g(..): the first turn raises -/
theorem ps_forGz {tgt iter : Expr} {body : List Stmt} {tg : TGz} (hp : PassesOwn (model X.prog X.w) X.A X.env X.xe) (hx : Passes (CX X.prog X.w) X E) (hc : X.calm = true) (hr : Room (k + 1) X.A) (hi : PGz X k iter tg E)
    (hs : ∀ x, foldedSetIterable iter X.env x = pure x := by intro _; rfl) : PS X (.For tgt iter body [] pos) (tForGz tg) := by
  refine ⟨fun pins s σ H D I h => ?_⟩
  refine wpAny_For (thn (hi.run pins s σ H I h) fun v s1 h1 => ?_) hs
  obtain ⟨H1, sc, E', I1, ns, imp, a, g, c, rfl, q1, q2, q3, q4, q5, q6, q7, q8, wake⟩ := h1
  refine wpAny_pyIter_gen q3 ?_
  refine codeAny_forLoop_any (fun n s' => s' = s1) ?_ 0 rfl
  rintro n s3 rfl
  refine wpAny_passesOwn hp (next_genG (n := 0) (F := fun _ _ _ => False) (Er := fun e s' => CX X.prog X.w X.stack H1 sc E' e s' ∧ s'.heap.IsGen a g) (Y := YZ) (I1.ok.hd hc) q7 (by have := hr.dp; omega) q3 q4 ⟨rfl, wake X.A.in1 _ 0 (by exact hr.in1) I1.ok.frames (fun _ _ z => z) q5 (allBare_setGen q6 rfl)⟩
    (fun v s4 gs' hb hv => hv.elim) (fun s4 hf h' hk => hf.elim) fun e s4 ⟨he, hg⟩ => ⟨hg, notStop_of ns (kin_cx I1 he) he, ?_⟩)
  exact hx pins σ H1 sc e _ I1 (cx_imp imp (cx_gens he))
def tListGz (tg : TGz) : TE := fun σ H _ => tg σ H
/-- list(g(..)): it raises -/
theorem pe_listGz {e : Expr} {tg : TGz} {nm : Str} (h : PGz X k e tg E) (hx : Passes (CX X.prog X.w) X E) (hr : Room (k + 3) X.A) (hg : Gl X nm) (hmg : X.mg nm = none) (hv : bootBuiltins nm = some (.type "list")) (hnm : nm ≠ "__name__" := by decide) (hdb : (nm == ("__debug__" : Str)) = false := by decide)
    (he : starEach [e] X.env = (false, eval e X.env) :: starEach [] X.env := by rfl) : PE X (.Call (.Name nm p) [e] [] pos) (tListGz tg) := by
  refine ⟨fun pins s σ H Q I hq => ?_⟩
  refine wpAny_Call_Name_kw (ld_blt I hg hmg hv ?_ hnm hdb)
  refine PyProof.Rows.callWith_type1 ?_ he rfl
  rw [he]
  show wpAny _ _ (spliced ((false, eval e X.env) :: backTo pos (starEach [] X.env))) _ _ s
  refine Calls.spliced_cons (thn (h.run pins s σ H I hq) fun u s1 ⟨H1, sc, E', I1, ns, imp, hG⟩ => ?_)
  refine Calls.spliced_nil ?_
  have hM : GMade X.prog X.w k X.stack H1 sc [] (fun _ _ => False) E' u s1 := by
    obtain ⟨a, g, c, eu, q1, q2, q3, q4, q5, q6, q7, q8, wake⟩ := hG
    refine ⟨a, g, c, eu, q1, q2, q3, q4, q5, q6, q7, q8, fun A S s2 hrA hfr hS kp _ ho hb => ?_⟩
    refine seg_imp (R := RZ X.prog X.w X.stack H1 sc E' a g) (Y := YZ) (fun n s0 r s3 hR => ?_) (fun n s0 v s3 kap kap' _ hY => hY.elim) sizeLine (wake A s2 sizeLine hrA hfr kp ho hb)
    rcases hR with ⟨_, z⟩ | ⟨e, er, z⟩
    · exact z.elim
    · exact .inr ⟨e, er, z⟩
  refine call_list_new hr I1.ok.frames hM (fun S s' acc c H' ys q0 q1 q2 hl q3 q4 q5 q6 q7 q8 => q8.elim) fun e s' g hc => ?_
  exact ⟨notStop_of ns (kin_cx I1 hc) hc, hx pins σ H1 sc e _ I1 (cx_imp imp (cx_gens hc))⟩
end
end GnX
namespace Sw
open PySem PySem.Spec PyProof.Rows L2 Evl
/-! ### a tuple times 0 -/
def rRep0 (K : PySem.W.Frag) : R2 := fun x y H Q => ∃ l xs, x = .ref l ∧ y = .int 0 ∧ SqT K H l xs ∧ xs ≠ [] ∧ ∀ p, H p = none → Q (.ref p) (upd H p (.tup []))
section
variable {X : Cx}
theorem tuple_mul0 (l : Addr) (items : Array Value) (n : Nat) (dd : Option Addr) (sl : Array (Option Value)) (u : Tok) (c1 : (items.isEmpty || (0 : Int) == 1) = false) :
    Meets (Builtin.«tuple.__mul__» ⟨[.ref l, .int 0 u], []⟩) (fun _ R s => s.heap.get? l = some { cls := .type "tuple", dict := dd, data := .seq items n, slots := sl } ∧ R (.ok (.ret (Value.ref s.heap.objs.size))) { s with heap := s.heap.push { cls := Value.type "tuple", data := Data.seq #[] }, toks := s.toks }) :=
  .of_wp fun prog w A R s h => by
    obtain ⟨hp, g, d, tk, os⟩ := s
    obtain ⟨hl, h⟩ := h
    have f1 := AutoSeq1.idx_int
    wp_walk using wpAny_loadPart' hl
    repeat (first
      | (refine wpAny_ite_false (by decide) ?_; wp_walk using wpAny_loadPart' hl)
      | (refine wpAny_ite_false (decide_eq_false (by rw [c1]; exact Bool.false_ne_true)) ?_; wp_walk using wpAny_loadPart' hl)
      | (refine wpAny_ite_true (by rfl) ?_; wp_walk using wpAny_loadPart' hl)
      | (refine wpAny_ite_true (by simp) ?_; wp_walk using wpAny_loadPart' hl))
    exact ⟨_, rfl, h⟩
theorem op_rep0 : OpR X (binaryOp .Mult) (rRep0 X.K) := by
  intro pins s σ H x y v u Q I rx ry h
  obtain ⟨l, xs, rfl, rfl, hT, hne, q⟩ := h
  cases rx
  obtain ⟨t, rfl⟩ := ry
  obtain ⟨its, r, ⟨⟨cls, dd, data, sl⟩, ho, hc, n, hd⟩, hs⟩ := I.tuple hT
  simp only at hc hd
  subst hc hd
  have hn : its ≠ [] := fun e => hne (by
    have := r.length
    rw [e] at this
    exact List.eq_nil_of_length_eq_zero this)
  have hi : its.toArray.isEmpty = false := by
    cases its with
    | nil => exact absurd rfl hn
    | cons a b => rfl
  refine wpAny_binaryOp_repeat_ref (T := "tuple") (U := "int") (by decide) ⟨_, ho, rfl⟩ (fun s' => typeIs_int s' 0 t) noFill_tuple_mul F.fills_int_mul F.slot_int_rmul repeat_tuple F.slot_int_index.lookup
    (call_meets F.slot_int_rmul (typeIs_int s 0 t) F.entry_int_rmul (F.args_int_rmul_2 _ _) (int_rmul_tuple 0 t l its.toArray n dd sl)
      ⟨ho, rfl, ⟨_, ho, rfl⟩, call_meets F.slot_tuple_mul ⟨_, ho, rfl⟩ F.entry_tuple_mul (F.args_tuple_mul_2 _ _) (tuple_mul0 l its.toArray n dd sl t (by rw [hi]; rfl)) ⟨ho, ?_⟩⟩)
  refine ⟨.ref s.heap.objs.size, _, I.laid (t' := s.toks) (o := .tup []) (fun b ob q => Heap.get?_push_of_some _ q) (Nat.le_refl _) ?_, rfl, q _ (I.hok.fresh (Nat.le_refl _))⟩
  exact ⟨Nat.zero_le _, [], .nil, IsTup.new _ _⟩
def rRepA (K : PySem.W.Frag) : R2 := fun x y H Q => rRep0 K x y H Q ∨ rRep1 K x y H Q
theorem op_repAK (K : PySem.W.Frag) (h : X.K = K) : OpR X (binaryOp .Mult) (rRepA K) := by
  subst h
  intro pins s σ H x y v u Q I rx ry z
  rcases z with z | z
  · exact op_rep0 pins s σ H x y v u Q I rx ry z
  · exact op_rep1 pins s σ H x y v u Q I rx ry z
end
end Sw
namespace Sw
open PySem PySem.Spec PyProof.Rows L2 Evl
def topS (i : Nat) : Stmt := PySem.Challenge.pw_staleloaves_k41_rules_day_by_day.main.body.getD i (.Pass ⟨0, 0, 0, 0⟩)
abbrev s_InvalidBakery___init__ : Stmt := inClass (topS 6) 0
abbrev n_InvalidBakery___init__ : List Str := ["self", "part", "index", "__class__"]
abbrev p_InvalidBakery___init__ : List Str := ["self", "part", "index"]
theorem sc_InvalidBakery___init__ : NdefX.NScope n_InvalidBakery___init__ p_InvalidBakery___init__ ["__class__"] (defScope s_InvalidBakery___init__) := NdefX.nscope_by (by decide +kernel)
abbrev s_InvalidRule___init__ : Stmt := inClass (topS 8) 0
abbrev n_InvalidRule___init__ : List Str := ["self", "part", "__class__"]
abbrev p_InvalidRule___init__ : List Str := ["self", "part"]
theorem sc_InvalidRule___init__ : NdefX.NScope n_InvalidRule___init__ p_InvalidRule___init__ ["__class__"] (defScope s_InvalidRule___init__) := NdefX.nscope_by (by decide +kernel)
abbrev s_check_number : Stmt := topS 12
abbrev n_check_number : List Str := ["number", "lowest", "highest"]
abbrev p_check_number : List Str := ["number", "lowest", "highest"]
theorem sc_check_number : FnScope n_check_number p_check_number (defScope s_check_number) := ⟨rfl, rfl, rfl, by decide +kernel, rfl, by decide +kernel, by decide +kernel⟩
abbrev s_check_amounts : Stmt := topS 14
abbrev n_check_amounts : List Str := ["part", "amounts", "at", "amount"]
abbrev p_check_amounts : List Str := ["part", "amounts"]
theorem sc_check_amounts : FnScope n_check_amounts p_check_amounts (defScope s_check_amounts) := ⟨rfl, rfl, rfl, by decide +kernel, rfl, by decide +kernel, by decide +kernel⟩
abbrev s_check_life : Stmt := topS 15
abbrev n_check_life : List Str := ["life"]
abbrev p_check_life : List Str := ["life"]
theorem sc_check_life : FnScope n_check_life p_check_life (defScope s_check_life) := ⟨rfl, rfl, rfl, by decide +kernel, rfl, by decide +kernel, by decide +kernel⟩
abbrev s_check_bakery : Stmt := topS 16
abbrev n_check_bakery : List Str := ["bakes", "demands", "life"]
abbrev p_check_bakery : List Str := ["bakes", "demands", "life"]
theorem sc_check_bakery : FnScope n_check_bakery p_check_bakery (defScope s_check_bakery) := ⟨rfl, rfl, rfl, by decide +kernel, rfl, by decide +kernel, by decide +kernel⟩
abbrev s_check_part : Stmt := topS 20
abbrev n_check_part : List Str := ["part", "number", "lowest"]
abbrev p_check_part : List Str := ["part", "number", "lowest"]
theorem sc_check_part : FnScope n_check_part p_check_part (defScope s_check_part) := ⟨rfl, rfl, rfl, by decide +kernel, rfl, by decide +kernel, by decide +kernel⟩
abbrev s_Rule___init__ : Stmt := inClass (topS 21) 1
abbrev n_Rule___init__ : List Str := ["self", "amount"]
abbrev p_Rule___init__ : List Str := ["self", "amount"]
theorem sc_Rule___init__ : FnScope n_Rule___init__ p_Rule___init__ (defScope s_Rule___init__) := ⟨rfl, rfl, rfl, by decide +kernel, rfl, by decide +kernel, by decide +kernel⟩
abbrev s_Rule_count_baked : Stmt := inClass (topS 21) 2
abbrev n_Rule_count_baked : List Str := ["self", "day", "stock", "sold"]
abbrev p_Rule_count_baked : List Str := ["self", "day", "stock", "sold"]
theorem sc_Rule_count_baked : FnScope n_Rule_count_baked p_Rule_count_baked (defScope s_Rule_count_baked) := ⟨rfl, rfl, rfl, by decide +kernel, rfl, by decide +kernel, by decide +kernel⟩
abbrev s_RefillRule___init__ : Stmt := inClass (topS 22) 1
abbrev n_RefillRule___init__ : List Str := ["self", "goal"]
abbrev p_RefillRule___init__ : List Str := ["self", "goal"]
theorem sc_RefillRule___init__ : FnScope n_RefillRule___init__ p_RefillRule___init__ (defScope s_RefillRule___init__) := ⟨rfl, rfl, rfl, by decide +kernel, rfl, by decide +kernel, by decide +kernel⟩
abbrev s_RefillRule_count_baked : Stmt := inClass (topS 22) 2
abbrev n_RefillRule_count_baked : List Str := ["self", "day", "stock", "sold"]
abbrev p_RefillRule_count_baked : List Str := ["self", "day", "stock", "sold"]
theorem sc_RefillRule_count_baked : FnScope n_RefillRule_count_baked p_RefillRule_count_baked (defScope s_RefillRule_count_baked) := ⟨rfl, rfl, rfl, by decide +kernel, rfl, by decide +kernel, by decide +kernel⟩
abbrev s_SoldRule___init__ : Stmt := inClass (topS 23) 1
abbrev n_SoldRule___init__ : List Str := ["self", "amount", "more", "__class__"]
abbrev p_SoldRule___init__ : List Str := ["self", "amount", "more"]
theorem sc_SoldRule___init__ : NdefX.NScope n_SoldRule___init__ p_SoldRule___init__ ["__class__"] (defScope s_SoldRule___init__) := NdefX.nscope_by (by decide +kernel)
abbrev s_SoldRule_count_baked : Stmt := inClass (topS 23) 2
abbrev n_SoldRule_count_baked : List Str := ["self", "day", "stock", "sold"]
abbrev p_SoldRule_count_baked : List Str := ["self", "day", "stock", "sold"]
theorem sc_SoldRule_count_baked : FnScope n_SoldRule_count_baked p_SoldRule_count_baked (defScope s_SoldRule_count_baked) := ⟨rfl, rfl, rfl, by decide +kernel, rfl, by decide +kernel, by decide +kernel⟩
abbrev s_run : Stmt := topS 24
abbrev n_run : List Str := ["rule", "demands", "life", "days", "stock", "sold", "recent", "day", "demand", "baked", "left"]
abbrev p_run : List Str := ["rule", "demands", "life", "days"]
theorem sc_run : GScope n_run p_run (defScope s_run) := ⟨rfl, rfl, rfl, by decide +kernel, rfl, by decide +kernel, by decide +kernel⟩
theorem sn_run : ∀ y ∈ (defScope s_run).names, y.2 ≠ .cell ∧ y.2 ≠ .free := by decide +kernel
abbrev s_outcome : Stmt := topS 25
abbrev n_outcome : List Str := ["rule", "demands", "life", "days", "sums", "row", "total", "number"]
abbrev p_outcome : List Str := ["rule", "demands", "life", "days"]
theorem sc_outcome : FnScope n_outcome p_outcome (defScope s_outcome) := ⟨rfl, rfl, rfl, by decide +kernel, rfl, by decide +kernel, by decide +kernel⟩
abbrev s__law_start : Stmt := topS 27
abbrev n__law_start : List Str := ["_law_script", "_law_mixed", "_law_cell"]
abbrev p__law_start : List Str := ["_law_script"]
theorem sc__law_start : FnScope n__law_start p__law_start (defScope s__law_start) := ⟨rfl, rfl, rfl, by decide +kernel, rfl, by decide +kernel, by decide +kernel⟩
abbrev s__law_drawn : Stmt := topS 28
abbrev n__law_drawn : List Str := ["_law_state", "_law_count", "_law_result", "_law_cell"]
abbrev p__law_drawn : List Str := ["_law_state", "_law_count"]
theorem sc__law_drawn : FnScope n__law_drawn p__law_drawn (defScope s__law_drawn) := ⟨rfl, rfl, rfl, by decide +kernel, rfl, by decide +kernel, by decide +kernel⟩
abbrev s__law_same : Stmt := topS 29
abbrev n__law_same : List Str := ["_law_result", "_law_expected", "_law_k"]
abbrev p__law_same : List Str := ["_law_result", "_law_expected"]
theorem sc__law_same : FnScope n__law_same p__law_same (defScope s__law_same) := ⟨rfl, rfl, rfl, by decide +kernel, rfl, by decide +kernel, by decide +kernel⟩
abbrev s__law_outcome : Stmt := topS 30
abbrev n__law_outcome : List Str := ["_law_work", "_law_e"]
abbrev p__law_outcome : List Str := ["_law_work"]
theorem sc__law_outcome : FnScope n__law_outcome p__law_outcome (defScope s__law_outcome) := ⟨rfl, rfl, rfl, by decide +kernel, rfl, by decide +kernel, by decide +kernel⟩
abbrev s__law_amounts : Stmt := topS 31
abbrev n__law_amounts : List Str := ["_law_state", "_law_size", "_law_high", "_law_k"]
abbrev p__law_amounts : List Str := ["_law_state", "_law_size", "_law_high"]
theorem sc__law_amounts : FnScope n__law_amounts p__law_amounts (defScope s__law_amounts) := ⟨rfl, rfl, rfl, by decide +kernel, rfl, by decide +kernel, by decide +kernel⟩
abbrev s__law_sold : Stmt := topS 32
abbrev n__law_sold : List Str := ["_law_shelf", "_law_customers", "_law_left", "_law_k", "_law_sale"]
abbrev p__law_sold : List Str := ["_law_shelf", "_law_customers"]
theorem sc__law_sold : FnScope n__law_sold p__law_sold (defScope s__law_sold) := ⟨rfl, rfl, rfl, by decide +kernel, rfl, by decide +kernel, by decide +kernel⟩
abbrev s__law_closed : Stmt := topS 33
abbrev n__law_closed : List Str := ["_law_shelf", "_law_life", "_law_old", "_law_row"]
abbrev p__law_closed : List Str := ["_law_shelf", "_law_life"]
theorem sc__law_closed : FnScope n__law_closed p__law_closed (defScope s__law_closed) := ⟨rfl, rfl, rfl, by decide +kernel, rfl, by decide +kernel, by decide +kernel⟩
abbrev s__law_rule : Stmt := topS 34
abbrev n__law_rule : List Str := ["_law_word", "_law_amount", "_law_plus"]
abbrev p__law_rule : List Str := ["_law_word", "_law_amount", "_law_plus"]
theorem sc__law_rule : FnScope n__law_rule p__law_rule (defScope s__law_rule) := ⟨rfl, rfl, rfl, by decide +kernel, rfl, by decide +kernel, by decide +kernel⟩
abbrev s__law_days : Stmt := topS 35
abbrev n__law_days : List Str := ["_law_word", "_law_amount", "_law_plus", "_law_demands", "_law_life", "_law_days_here", "_law_shelf", "_law_rows", "_law_sale", "_law_day", "_law_baked", "_law_customers", "_law_row"]
abbrev p__law_days : List Str := ["_law_word", "_law_amount", "_law_plus", "_law_demands", "_law_life", "_law_days_here"]
theorem sc__law_days : FnScope n__law_days p__law_days (defScope s__law_days) := ⟨rfl, rfl, rfl, by decide +kernel, rfl, by decide +kernel, by decide +kernel⟩
abbrev s__law_refused : Stmt := topS 36
abbrev n__law_refused : List Str := ["_law_rule_here", "_law_works", "_law_parts", "_law_expected", "_law_far", "_law_work", "_law_part"]
abbrev p__law_refused : List Str := ["_law_rule_here"]
theorem sc__law_refused : FnScope n__law_refused p__law_refused (defScope s__law_refused) := ⟨rfl, rfl, rfl, by decide +kernel, rfl, by decide +kernel, by decide +kernel⟩
abbrev s_law : Stmt := topS 37
abbrev n_law : List Str := ["_law_script", "_law_state", "_law_turn", "_law_high", "_law_demands", "_law_life", "_law_days_here", "_law_word", "_law_amount", "_law_plus", "_law_rule_here", "_law_rows", "_law_again", "_law_sums", "_law_k", "_law_row"]
abbrev p_law : List Str := ["_law_script"]
theorem sc_law : FnScope n_law p_law (defScope s_law) := ⟨rfl, rfl, rfl, by decide +kernel, rfl, by decide +kernel, by decide +kernel⟩
structure Ad where
  c_Bakery : Addr
  c_Rule : Addr
  c_RefillRule : Addr
  c_SoldRule : Addr
  mc_Bakery : Value
  mc_Rule : Value
  mc_RefillRule : Value
  mc_SoldRule : Value
  t_MOST_LOAVES : Tok
  t_MOST_RULE_DAYS : Tok
  f_InvalidBakery___init__ : Addr
  d_InvalidBakery___init__ : FuncData
  f_InvalidRule___init__ : Addr
  d_InvalidRule___init__ : FuncData
  f_check_number : Addr
  d_check_number : FuncData
  f_check_amounts : Addr
  d_check_amounts : FuncData
  f_check_life : Addr
  d_check_life : FuncData
  f_check_bakery : Addr
  d_check_bakery : FuncData
  f_check_part : Addr
  d_check_part : FuncData
  f_Rule___init__ : Addr
  d_Rule___init__ : FuncData
  f_Rule_count_baked : Addr
  d_Rule_count_baked : FuncData
  f_RefillRule___init__ : Addr
  d_RefillRule___init__ : FuncData
  f_RefillRule_count_baked : Addr
  d_RefillRule_count_baked : FuncData
  f_SoldRule___init__ : Addr
  d_SoldRule___init__ : FuncData
  f_SoldRule_count_baked : Addr
  d_SoldRule_count_baked : FuncData
  f_run : Addr
  d_run : FuncData
  f_outcome : Addr
  d_outcome : FuncData
  f__law_start : Addr
  d__law_start : FuncData
  f__law_drawn : Addr
  d__law_drawn : FuncData
  f__law_same : Addr
  d__law_same : FuncData
  f__law_outcome : Addr
  d__law_outcome : FuncData
  f__law_amounts : Addr
  d__law_amounts : FuncData
  f__law_sold : Addr
  d__law_sold : FuncData
  f__law_closed : Addr
  d__law_closed : FuncData
  f__law_rule : Addr
  d__law_rule : FuncData
  f__law_days : Addr
  d__law_days : FuncData
  f__law_refused : Addr
  d__law_refused : FuncData
  f_law : Addr
  d_law : FuncData
  k__law_refused : Addr
  tb__law_refused : Addr
  k_SoldRule___init__ : Addr
  cc_SoldRule___init__ : Addr
  P : Program
  c_LoafError : Addr
  c_InvalidBakery : Addr
  c_InvalidNumber : Addr
  c_InvalidRule : Addr
  k_InvalidBakery___init__ : Addr
  k_InvalidRule___init__ : Addr
  cc_InvalidBakery___init__ : Addr
  cc_InvalidRule___init__ : Addr
structure Txt (K : PySem.W.Frag) (mg : Str → Option Value) (Z : Ad) : Prop where
  cl_Bakery : Cls K Z.c_Bakery
  g_Bakery : mg "Bakery" = some (.ref Z.c_Bakery)
  cv_Bakery_MAX_DAYS : ClX.CRead K Z.c_Bakery Z.mc_Bakery ∧ ∃ u, ClX.CVal K Z.c_Bakery Z.mc_Bakery "MAX_DAYS" (.int 24) u
  cv_Bakery_MAX_LIFE : ClX.CRead K Z.c_Bakery Z.mc_Bakery ∧ ∃ u, ClX.CVal K Z.c_Bakery Z.mc_Bakery "MAX_LIFE" (.int 30) u
  cl_Rule : Cls K Z.c_Rule
  g_Rule : mg "Rule" = some (.ref Z.c_Rule)
  mk_Rule : Mk K Z.c_Rule Z.f_Rule___init__
  na_Rule__amount : NoAttr K Z.c_Rule "_amount"
  cn_Rule_KIND : ∃ u, Con K Z.c_Rule "KIND" (.str "fixed") u
  cv_Rule_KIND : ClX.CRead K Z.c_Rule Z.mc_Rule ∧ ∃ u, ClX.CVal K Z.c_Rule Z.mc_Rule "KIND" (.str "fixed") u
  cl_RefillRule : Cls K Z.c_RefillRule
  g_RefillRule : mg "RefillRule" = some (.ref Z.c_RefillRule)
  mk_RefillRule : Mk K Z.c_RefillRule Z.f_RefillRule___init__
  na_RefillRule__goal : NoAttr K Z.c_RefillRule "_goal"
  cn_RefillRule_KIND : ∃ u, Con K Z.c_RefillRule "KIND" (.str "refill") u
  cv_RefillRule_KIND : ClX.CRead K Z.c_RefillRule Z.mc_RefillRule ∧ ∃ u, ClX.CVal K Z.c_RefillRule Z.mc_RefillRule "KIND" (.str "refill") u
  cl_SoldRule : Cls K Z.c_SoldRule
  g_SoldRule : mg "SoldRule" = some (.ref Z.c_SoldRule)
  mk_SoldRule : Mk K Z.c_SoldRule Z.f_SoldRule___init__
  na_SoldRule__more : NoAttr K Z.c_SoldRule "_more"
  na_SoldRule__amount : NoAttr K Z.c_SoldRule "_amount"
  cn_SoldRule_KIND : ∃ u, Con K Z.c_SoldRule "KIND" (.str "sold") u
  cv_SoldRule_KIND : ClX.CRead K Z.c_SoldRule Z.mc_SoldRule ∧ ∃ u, ClX.CVal K Z.c_SoldRule Z.mc_SoldRule "KIND" (.str "sold") u
  g_MOST_LOAVES : mg "MOST_LOAVES" = some (.int 1000000000 Z.t_MOST_LOAVES)
  g_MOST_RULE_DAYS : mg "MOST_RULE_DAYS" = some (.int 10000 Z.t_MOST_RULE_DAYS)
  b_bool : mg "bool" = none
  b_enumerate : mg "enumerate" = none
  b_int : mg "int" = none
  b_isinstance : mg "isinstance" = none
  b_len : mg "len" = none
  b_list : mg "list" = none
  b_max : mg "max" = none
  b_min : mg "min" = none
  b_range : mg "range" = none
  b_sum : mg "sum" = none
  b_super : mg "super" = none
  b_tuple : mg "tuple" = none
  b_zip : mg "zip" = none
  g_LoafError : mg "LoafError" = some (.ref Z.c_LoafError)
  g_InvalidBakery : mg "InvalidBakery" = some (.ref Z.c_InvalidBakery)
  g_InvalidNumber : mg "InvalidNumber" = some (.ref Z.c_InvalidNumber)
  g_InvalidRule : mg "InvalidRule" = some (.ref Z.c_InvalidRule)
  xp_InvalidNumber : PySem.W.excIn K Z.c_InvalidNumber [.type "ValueError", .type "Exception", .type "BaseException", .type "object"] "ValueError.__new__" = true
  xq_InvalidNumber : PySem.W.keepIn K (.ref Z.c_InvalidNumber) = true
  xb_InvalidNumber : PySem.W.subIn K (.ref Z.c_InvalidNumber) (.type "BaseException") = some true
  xy_InvalidNumber : PySem.W.typeIn K (.ref Z.c_InvalidNumber) = some (.type "type")
  xI_InvalidNumber : ExI K Z.c_InvalidNumber
  xm_InvalidNumber : PySem.W.exmOne K (.ref Z.c_InvalidNumber) (.ref Z.c_LoafError) = some true
  xv_InvalidNumber : PySem.W.kitOne K (.ref Z.c_InvalidNumber) (.type "ValueError") = some true
  xk_InvalidNumber_InvalidBakery : PySem.W.kitOne K (.ref Z.c_InvalidNumber) (.ref Z.c_InvalidBakery) = some false
  xk_InvalidNumber_InvalidNumber : PySem.W.kitOne K (.ref Z.c_InvalidNumber) (.ref Z.c_InvalidNumber) = some true
  xk_InvalidNumber_InvalidRule : PySem.W.kitOne K (.ref Z.c_InvalidNumber) (.ref Z.c_InvalidRule) = some false
  ox_InvalidBakery : OexC K Z.c_InvalidBakery
  xi_InvalidBakery : PySem.W.findIn K (.ref Z.c_InvalidBakery) "__init__" = some (some (.ref Z.f_InvalidBakery___init__))
  xt_InvalidBakery : PySem.W.typeIn K (.ref Z.f_InvalidBakery___init__) = some (.type "function")
  xs_InvalidBakery : SupF Z.P K "InvalidBakery.__init__" s_InvalidBakery___init__ Z.f_InvalidBakery___init__ Z.d_InvalidBakery___init__ Z.k_InvalidBakery___init__ Z.cc_InvalidBakery___init__ Z.c_InvalidBakery
  xI_InvalidBakery : ExI K Z.c_InvalidBakery
  xm_InvalidBakery : PySem.W.exmOne K (.ref Z.c_InvalidBakery) (.ref Z.c_LoafError) = some true
  xv_InvalidBakery : PySem.W.kitOne K (.ref Z.c_InvalidBakery) (.type "ValueError") = some true
  xk_InvalidBakery_InvalidBakery : PySem.W.kitOne K (.ref Z.c_InvalidBakery) (.ref Z.c_InvalidBakery) = some true
  xk_InvalidBakery_InvalidNumber : PySem.W.kitOne K (.ref Z.c_InvalidBakery) (.ref Z.c_InvalidNumber) = some false
  xk_InvalidBakery_InvalidRule : PySem.W.kitOne K (.ref Z.c_InvalidBakery) (.ref Z.c_InvalidRule) = some false
  na_InvalidBakery_part : PySem.W.findIn K (.ref Z.c_InvalidBakery) "part" = some none
  na_InvalidBakery_index : PySem.W.findIn K (.ref Z.c_InvalidBakery) "index" = some none
  b_InvalidBakery___init__ : Binds K Z.d_InvalidBakery___init__ p_InvalidBakery___init__ []
  ox_InvalidRule : OexC K Z.c_InvalidRule
  xi_InvalidRule : PySem.W.findIn K (.ref Z.c_InvalidRule) "__init__" = some (some (.ref Z.f_InvalidRule___init__))
  xt_InvalidRule : PySem.W.typeIn K (.ref Z.f_InvalidRule___init__) = some (.type "function")
  xs_InvalidRule : SupF Z.P K "InvalidRule.__init__" s_InvalidRule___init__ Z.f_InvalidRule___init__ Z.d_InvalidRule___init__ Z.k_InvalidRule___init__ Z.cc_InvalidRule___init__ Z.c_InvalidRule
  xI_InvalidRule : ExI K Z.c_InvalidRule
  xm_InvalidRule : PySem.W.exmOne K (.ref Z.c_InvalidRule) (.ref Z.c_LoafError) = some true
  xv_InvalidRule : PySem.W.kitOne K (.ref Z.c_InvalidRule) (.type "ValueError") = some true
  xk_InvalidRule_InvalidBakery : PySem.W.kitOne K (.ref Z.c_InvalidRule) (.ref Z.c_InvalidBakery) = some false
  xk_InvalidRule_InvalidNumber : PySem.W.kitOne K (.ref Z.c_InvalidRule) (.ref Z.c_InvalidNumber) = some false
  xk_InvalidRule_InvalidRule : PySem.W.kitOne K (.ref Z.c_InvalidRule) (.ref Z.c_InvalidRule) = some true
  na_InvalidRule_part : PySem.W.findIn K (.ref Z.c_InvalidRule) "part" = some none
  b_InvalidRule___init__ : Binds K Z.d_InvalidRule___init__ p_InvalidRule___init__ []
  xn_InvalidBakery_InvalidBakery : PySem.W.exmOne K (.ref Z.c_InvalidBakery) (.ref Z.c_InvalidBakery) = some true
  xn_InvalidNumber_InvalidBakery : PySem.W.exmOne K (.ref Z.c_InvalidNumber) (.ref Z.c_InvalidBakery) = some false
  xn_InvalidNumber_InvalidNumber : PySem.W.exmOne K (.ref Z.c_InvalidNumber) (.ref Z.c_InvalidNumber) = some true
  xn_InvalidRule_InvalidBakery : PySem.W.exmOne K (.ref Z.c_InvalidRule) (.ref Z.c_InvalidBakery) = some false
  xn_InvalidRule_InvalidNumber : PySem.W.exmOne K (.ref Z.c_InvalidRule) (.ref Z.c_InvalidNumber) = some false
  xn_InvalidRule_InvalidRule : PySem.W.exmOne K (.ref Z.c_InvalidRule) (.ref Z.c_InvalidRule) = some true
  xz_InvalidBakery : PySem.W.subIn K (.ref Z.c_InvalidBakery) (.type "StopIteration") = some false
  xz_InvalidNumber : PySem.W.subIn K (.ref Z.c_InvalidNumber) (.type "StopIteration") = some false
  xz_InvalidRule : PySem.W.subIn K (.ref Z.c_InvalidRule) (.type "StopIteration") = some false
  in_Rule : C8.InsC K Z.c_Rule
  in_RefillRule : C8.InsC K Z.c_RefillRule
  in_SoldRule : C8.InsC K Z.c_SoldRule
  ik_RefillRule_Rule : PySem.W.kitOne K (.ref Z.c_RefillRule) (.ref Z.c_Rule) = some true
  ik_SoldRule_Rule : PySem.W.kitOne K (.ref Z.c_SoldRule) (.ref Z.c_Rule) = some true
  F_check_number : Fun K "check_number" "check_number" s_check_number Z.f_check_number Z.d_check_number
  b_check_number : Binds K Z.d_check_number p_check_number []
  g_check_number : mg "check_number" = some (.ref Z.f_check_number)
  F_check_amounts : Fun K "check_amounts" "check_amounts" s_check_amounts Z.f_check_amounts Z.d_check_amounts
  b_check_amounts : Binds K Z.d_check_amounts p_check_amounts []
  g_check_amounts : mg "check_amounts" = some (.ref Z.f_check_amounts)
  F_check_life : Fun K "check_life" "check_life" s_check_life Z.f_check_life Z.d_check_life
  b_check_life : Binds K Z.d_check_life p_check_life []
  g_check_life : mg "check_life" = some (.ref Z.f_check_life)
  F_check_bakery : Fun K "check_bakery" "check_bakery" s_check_bakery Z.f_check_bakery Z.d_check_bakery
  b_check_bakery : Binds K Z.d_check_bakery p_check_bakery []
  g_check_bakery : mg "check_bakery" = some (.ref Z.f_check_bakery)
  F_check_part : Fun K "check_part" "check_part" s_check_part Z.f_check_part Z.d_check_part
  b_check_part : Binds K Z.d_check_part p_check_part []
  g_check_part : mg "check_part" = some (.ref Z.f_check_part)
  F_Rule___init__ : Fun K "__init__" "Rule.__init__" s_Rule___init__ Z.f_Rule___init__ Z.d_Rule___init__
  b_Rule___init__ : Binds K Z.d_Rule___init__ p_Rule___init__ []
  F_Rule_count_baked : Fun K "count_baked" "Rule.count_baked" s_Rule_count_baked Z.f_Rule_count_baked Z.d_Rule_count_baked
  b_Rule_count_baked : Binds K Z.d_Rule_count_baked p_Rule_count_baked []
  m_Rule_count_baked : Meth K Z.c_Rule "count_baked" Z.f_Rule_count_baked
  F_RefillRule___init__ : Fun K "__init__" "RefillRule.__init__" s_RefillRule___init__ Z.f_RefillRule___init__ Z.d_RefillRule___init__
  b_RefillRule___init__ : Binds K Z.d_RefillRule___init__ p_RefillRule___init__ []
  F_RefillRule_count_baked : Fun K "count_baked" "RefillRule.count_baked" s_RefillRule_count_baked Z.f_RefillRule_count_baked Z.d_RefillRule_count_baked
  b_RefillRule_count_baked : Binds K Z.d_RefillRule_count_baked p_RefillRule_count_baked []
  m_RefillRule_count_baked : Meth K Z.c_RefillRule "count_baked" Z.f_RefillRule_count_baked
  su_SoldRule___init__ : SupO Z.P K "SoldRule.__init__" s_SoldRule___init__ Z.f_SoldRule___init__ Z.d_SoldRule___init__ Z.k_SoldRule___init__ Z.cc_SoldRule___init__ Z.c_SoldRule Z.f_Rule___init__
  b_SoldRule___init__ : KBn K Z.d_SoldRule___init__ p_SoldRule___init__ 2 ["more"] (fun us ws => us ++ ws) (fun vs zs => vs ++ zs)
  F_SoldRule_count_baked : Fun K "count_baked" "SoldRule.count_baked" s_SoldRule_count_baked Z.f_SoldRule_count_baked Z.d_SoldRule_count_baked
  b_SoldRule_count_baked : Binds K Z.d_SoldRule_count_baked p_SoldRule_count_baked []
  m_SoldRule_count_baked : Meth K Z.c_SoldRule "count_baked" Z.f_SoldRule_count_baked
  F_run : Fun K "run" "run" s_run Z.f_run Z.d_run
  b_run : Binds K Z.d_run p_run []
  g_run : mg "run" = some (.ref Z.f_run)
  F_outcome : Fun K "outcome" "outcome" s_outcome Z.f_outcome Z.d_outcome
  b_outcome : Binds K Z.d_outcome p_outcome []
  g_outcome : mg "outcome" = some (.ref Z.f_outcome)
  F__law_start : Fun K "_law_start" "_law_start" s__law_start Z.f__law_start Z.d__law_start
  b__law_start : Binds K Z.d__law_start p__law_start []
  g__law_start : mg "_law_start" = some (.ref Z.f__law_start)
  F__law_drawn : Fun K "_law_drawn" "_law_drawn" s__law_drawn Z.f__law_drawn Z.d__law_drawn
  b__law_drawn : Binds K Z.d__law_drawn p__law_drawn []
  g__law_drawn : mg "_law_drawn" = some (.ref Z.f__law_drawn)
  F__law_same : Fun K "_law_same" "_law_same" s__law_same Z.f__law_same Z.d__law_same
  b__law_same : Binds K Z.d__law_same p__law_same []
  g__law_same : mg "_law_same" = some (.ref Z.f__law_same)
  F__law_outcome : Fun K "_law_outcome" "_law_outcome" s__law_outcome Z.f__law_outcome Z.d__law_outcome
  b__law_outcome : Binds K Z.d__law_outcome p__law_outcome []
  g__law_outcome : mg "_law_outcome" = some (.ref Z.f__law_outcome)
  F__law_amounts : Fun K "_law_amounts" "_law_amounts" s__law_amounts Z.f__law_amounts Z.d__law_amounts
  b__law_amounts : Binds K Z.d__law_amounts p__law_amounts []
  g__law_amounts : mg "_law_amounts" = some (.ref Z.f__law_amounts)
  F__law_sold : Fun K "_law_sold" "_law_sold" s__law_sold Z.f__law_sold Z.d__law_sold
  b__law_sold : Binds K Z.d__law_sold p__law_sold []
  g__law_sold : mg "_law_sold" = some (.ref Z.f__law_sold)
  F__law_closed : Fun K "_law_closed" "_law_closed" s__law_closed Z.f__law_closed Z.d__law_closed
  b__law_closed : Binds K Z.d__law_closed p__law_closed []
  g__law_closed : mg "_law_closed" = some (.ref Z.f__law_closed)
  F__law_rule : Fun K "_law_rule" "_law_rule" s__law_rule Z.f__law_rule Z.d__law_rule
  b__law_rule : Binds K Z.d__law_rule p__law_rule []
  g__law_rule : mg "_law_rule" = some (.ref Z.f__law_rule)
  F__law_days : Fun K "_law_days" "_law_days" s__law_days Z.f__law_days Z.d__law_days
  b__law_days : Binds K Z.d__law_days p__law_days []
  g__law_days : mg "_law_days" = some (.ref Z.f__law_days)
  F__law_refused : Fun K "_law_refused" "_law_refused" s__law_refused Z.f__law_refused Z.d__law_refused
  b__law_refused : Binds K Z.d__law_refused p__law_refused []
  FC__law_refused : FunC K "_law_refused" "_law_refused" s__law_refused Z.f__law_refused Z.d__law_refused Z.k__law_refused
  g__law_refused : mg "_law_refused" = some (.ref Z.f__law_refused)
  F_law : Fun K "law" "law" s_law Z.f_law Z.d_law
  b_law : Binds K Z.d_law p_law []
  g_law : mg "law" = some (.ref Z.f_law)
end Sw
namespace Sw
open PySem PySem.Spec PyProof.Rows L2 Evl LamX NdefX
/-! ### an instance's fields, for the walk -/
/-- the instance at a has the field, and its class lets it be read -/
structure FlK (K : PySem.W.Frag) (H : Hp) (a C : Addr) (f : Str) (v : V) : Prop where
  fl : Fl H a C f v
  cl : Cls K C
  na : NoAttr K C f
section
variable {K : PySem.W.Frag} {σ : L2.St} {H H' : Hp} {ta tb te tx : TE} {x y z v : V} {a C dx : Addr} {fs : List (Str × V)} {f m : Str}
theorem FlK.mono (e : Ex H H') (h : FlK K H a C f v) : FlK K H' a C f v := ⟨h.fl.mono e, h.cl, h.na⟩
theorem ev_fldK (h : Ev ta σ H (.ref a)) (hf : FlK K H a C f v) : Ev (tFld K ta f) σ H v := ev_fld h hf.fl hf.cl hf.na
theorem atI_mapI {ns : List Int} {i : Int} (h0 : 0 ≤ i) (h1 : i < ns.length) : atI (ns.map V.int) i = some (.int (ns.getD i.toNat 0)) := by
  rw [atI_at (d := V.int 0) h0 (by rw [List.length_map]; exact h1)]
  simp [List.getD]
theorem rng_map {n : Nat} (f : Nat → Int) : (List.range n).map (fun i => V.int (f i)) = ((List.range n).map f).map V.int := by
  rw [List.map_map]; rfl
end
theorem wide_ok {i j : Int} (h : j.natAbs < 2 ^ 60) : CMul i j := .inr (by omega)
theorem at_map {ns : List Int} {i : Nat} {x : V} (h : (ns.map V.int)[i]? = some x) : x = .int (ns.getD i 0) ∧ i < ns.length := by
  rw [List.getElem?_map] at h
  cases e : ns[i]? with
  | none => rw [e] at h; cases h
  | some z =>
    rw [e] at h
    have hi := (List.getElem?_eq_some_iff.mp e).1
    refine ⟨?_, hi⟩
    simp [List.getD, e] at h ⊢
    exact h.symm
theorem getD_mem0 {xs : List Int} {i : Nat} (h : ∀ x ∈ xs, 0 ≤ x ∧ x ≤ 1000000000) : 0 ≤ xs.getD i 0 ∧ xs.getD i 0 ≤ 1000000000 := by
  by_cases hi : i < xs.length
  · have e : xs.getD i 0 = xs[i] := by simp [List.getD, hi]
    rw [e]; exact h _ (List.getElem_mem hi)
  · have e : xs.getD i 0 = 0 := by simp [List.getD, List.getElem?_eq_none (Nat.le_of_not_lt hi)]
    rw [e]; omega
/-- from H to S, what is not of M is kept, and what is of M is known -/
structure Go (M : Addr → Prop) (a : Addr) (H S : Hp) : Prop where
  ex : Ex (wn H M) (wn S M)
  kn : ∀ b, M b → S b ≠ none
  al : ∀ b o, H b = some o → b ≠ a → S b = some o
theorem Go.up {M : Addr → Prop} {H H1 : Hp} {a : Addr} {o : HO} (ha : M a) (kn : ∀ b, M b → H b ≠ none) (e : Ex H H1) : Go M a H (upd H1 a o) := by
  refine ⟨(wn_mono e).trans (wn_upd ha), fun b hb q => ?_, fun b u h z => by rw [upd_ne z]; exact e b u h⟩
  by_cases z : b = a
  · rw [z, upd_same] at q; cases q
  · rw [upd_ne z] at q
    cases hh : H b with
    | none => exact kn b hb hh
    | some u => rw [e b u hh] at q; cases q
theorem flk_of {K : PySem.W.Frag} {S : Hp} {x C dx : Addr} {fs : List (Str × V)} {f : Str} {v : V} (h : S x = some (.ins C dx fs)) (c : Cls K C) (n : NoAttr K C f) (l : fs.lookup f = some v) : FlK K S x C f v := ⟨⟨dx, fs, h, l⟩, c, n⟩
section
variable {K : PySem.W.Frag} {σ : L2.St} {H : Hp} {ta te : TE} {v : V} {a C dx : Addr} {fs : List (Str × V)} {f : Str} {D : Ends} {tz : TS}
variable {M : Addr → Prop}
/-- self.f = e while self is being made -/
theorem q_self (ha : M a) (kn : ∀ b, M b → H b ≠ none) (h : Ev te σ H v) (ho : ∀ H1, Ex H H1 → Ev ta σ H1 (.ref a)) (hx : H a = some (.ins C dx fs)) (c : Cls K C) (n : NoAttr K C f) (hl : fs.length < 1000)
    (k : ∀ S : Hp, S a = some (.ins C dx (putF f v fs)) → Go M a H S → tz D σ S) : tSeq (sFld K ta te f) tz D σ H := q_fld h ho hx c n hl fun H1 e => k _ upd_same (Go.up ha kn e)
theorem fresh_l {H H1 : Hp} {p : Addr} {xs : List V} {o : HO} (ha : M a) (kn : ∀ b, M b → H b ≠ none) (hp : H p = none) (h1 : H1 p = some (.lst xs)) : SqL K (wn (upd H1 a o) M) p xs := by
  have q : ¬ M p := fun z => kn p z hp
  have nb : p ≠ a := fun z => q (by rw [z]; exact ha)
  exact sq_of (by rw [wn_ni q, upd_ne nb]; exact h1)
theorem fresh_t {H H1 : Hp} {p : Addr} {xs : List V} {o : HO} (ha : M a) (kn : ∀ b, M b → H b ≠ none) (hp : H p = none) (h1 : H1 p = some (.tup xs)) : SqT K (wn (upd H1 a o) M) p xs := by
  have q : ¬ M p := fun z => kn p z hp
  have nb : p ≠ a := fun z => q (by rw [z]; exact ha)
  exact st_of (by rw [wn_ni q, upd_ne nb]; exact h1)
theorem q_selfL {xs : List V} (ha : M a) (kn : ∀ b, M b → H b ≠ none) (h : EvL te σ H xs) (ho : ∀ H1, Ex H H1 → Ev ta σ H1 (.ref a)) (hx : H a = some (.ins C dx fs)) (c : Cls K C) (n : NoAttr K C f) (hl : fs.length < 1000)
    (k : ∀ (p : Addr) (S : Hp), SqL K (wn S M) p xs → S a = some (.ins C dx (putF f (.ref p) fs)) → Go M a H S → tz D σ S) : tSeq (sFld K ta te f) tz D σ H := q_fldL h ho hx c n hl fun p H1 hp e h1 =>
  k p _ (fresh_l ha kn hp h1) upd_same (Go.up ha kn e)
theorem s_selfL {xs : List V} (ha : M a) (kn : ∀ b, M b → H b ≠ none) (h : EvL te σ H xs) (ho : ∀ H1, Ex H H1 → Ev ta σ H1 (.ref a)) (hx : H a = some (.ins C dx fs)) (c : Cls K C) (n : NoAttr K C f) (hl : fs.length < 1000)
    (k : ∀ (p : Addr) (S : Hp), SqL K (wn S M) p xs → S a = some (.ins C dx (putF f (.ref p) fs)) → Go M a H S → D.nx σ S) : sFld K ta te f D σ H := s_fldL h ho hx c n hl fun p H1 hp e h1 =>
  k p _ (fresh_l ha kn hp h1) upd_same (Go.up ha kn e)
theorem q_selfU {xs : List V} (ha : M a) (kn : ∀ b, M b → H b ≠ none) (h : EvU te σ H xs) (ho : ∀ H1, Ex H H1 → Ev ta σ H1 (.ref a)) (hx : H a = some (.ins C dx fs)) (c : Cls K C) (n : NoAttr K C f) (hl : fs.length < 1000)
    (k : ∀ (p : Addr) (S : Hp), SqT K (wn S M) p xs → S a = some (.ins C dx (putF f (.ref p) fs)) → Go M a H S → D.nx σ S) : sFld K ta te f D σ H := s_fldU h ho hx c n hl fun p H1 hp e h1 =>
  k p _ (fresh_t ha kn hp h1) upd_same (Go.up ha kn e)
end
section
variable {K : PySem.W.Frag} {σ : L2.St} {H H' : Hp} {ta tb te tx : TE} {x y z v : V} {a c : Addr} {xs : List V}
theorem ev_cval {C : Addr} {mc u : Value} {f : Str} (h : Ev ta σ H (.ref C)) (hc : ClX.CRead K C mc) (cv : ClX.CVal K C mc f v u) : Ev (ClX.tCVal K ta f) σ H v := fun H1 e Q q =>
  h H1 e _ fun H2 e2 => ⟨C, mc, v, u, rfl, hc, cv, q H2 e2⟩
def rTupS (K : PySem.W.Frag) : List V → Hp → VK → Prop := fun xs H Q => ∃ p ys, xs = [.ref p] ∧ ((SqL K H p ys ∧ ∀ l, H l = none → Q (.ref l) (upd H l (.tup ys))) ∨ (SqT K H p ys ∧ Q (.ref p) H))
theorem ev_tupT (h : Ev ta σ H (.ref a)) (hx : SqT K H a xs) : Ev (tCB (rTupS K) (tCons ta tNil)) σ H (.ref a) := fun H1 e Q q =>
  h H1 e _ fun H2 e2 => ⟨a, xs, rfl, .inr ⟨ex_t (e.trans e2) hx, q H2 e2⟩⟩
theorem eu_tupL (h : EvL ta σ H xs) : EvU (tCB (rTupS K) (tCons ta tNil)) σ H xs := fun H1 e Q q =>
  h H1 e _ fun p H2 _ e2 h2 => ⟨p, xs, rfl, .inl ⟨sq_of h2, fun l hl => q l _ (fresh_back e2 hl) (e2.trans (Ex.new hl)) upd_same⟩⟩
/-- what is handed back is some new object with P, seen apart from what M names -/
def EvR (te : TE) (σ : L2.St) (H : Hp) (M : Addr → Prop) (P : Addr → Hp → Prop) : Prop := ∀ H1, Ex H H1 → (∀ b, M b → H1 b ≠ none) → ∀ Q : VK, (∀ p H2, H1 p = none → Ex H1 H2 → P p (wn H2 M) → Q (.ref p) H2) → te σ H1 Q
end
theorem q_selfR {K : PySem.W.Frag} {σ : L2.St} {H : Hp} {ta te : TE} {a C dx : Addr} {fs : List (Str × V)} {f : Str} {D : Ends} {tz : TS} {M : Addr → Prop} {Pr : Addr → Hp → Prop} (ha : M a) (kn : ∀ b, M b → H b ≠ none) (h : EvR te σ H M Pr) (ho : ∀ H1, Ex H H1 → Ev ta σ H1 (.ref a)) (hx : H a = some (.ins C dx fs)) (c : Cls K C) (n : NoAttr K C f) (hl : fs.length < 1000)
    (hm : ∀ p H1 H2, Ex H1 H2 → Pr p H1 → Pr p H2)
    (k : ∀ (p : Addr) (S : Hp), Pr p (wn S M) → S a = some (.ins C dx (putF f (.ref p) fs)) → Go M a H S → tz D σ S) : tSeq (sFld K ta te f) tz D σ H :=
  h H (Ex.refl H) kn _ fun p H1 hp e1 hP => ho H1 e1 H1 (Ex.refl H1) _ fun H2 e2 => ⟨a, C, dx, fs, rfl, e2 _ _ (e1 _ _ hx), c, n, hl,
    k p _ (hm _ _ _ ((wn_mono e2).trans (wn_upd ha)) hP) upd_same (Go.up ha kn (e1.trans e2))⟩
theorem ev_prop {σ : L2.St} {H : Hp} {ta : TE} {C a : Addr} {sp : Sp} {E : XK} {z : V} (h : Ev ta σ H (.ref a)) (hi : ∃ dx fs, H a = some (.ins C dx fs)) (hs : SpV sp [.ref a] H z) : Ev (tProp C sp [] E ta) σ H z := fun H1 e Q q =>
  h H1 e _ fun H2 e2 => let ⟨dx, fs, h1⟩ := hi; ⟨a, dx, fs, rfl, e2 _ _ (e _ _ h1), hs H2 (e.trans e2) Q (fun H3 e3 => q H3 (e2.trans e3)) E⟩
theorem spv_or {sp sp' : Sp} {vs : List V} {H : Hp} {z : V} (h : SpV sp vs H z) : SpV (spOr sp sp') vs H z := fun H1 e Q q E => .inl (h H1 e Q q E)
theorem q_rz {σ : L2.St} {H : Hp} {t : TA} {vs : List V} {sp : Sp} {E : XK} {Q : VK} (ha : EvA t σ H vs) (h : ∀ H1, Ex H H1 → ∀ Q, sp vs H1 Q E) : tCall sp [] E t σ H Q := ha H (Ex.refl H) _ fun H1 e1 => by
  show sp (vs ++ []) H1 Q E
  rw [List.append_nil]; exact h H1 e1 Q
section
variable {K : PySem.W.Frag} {σ : L2.St} {H : Hp} {ta tb tc te : TE} {p : Addr} {ns xs ys : List Int} {b : Bool}
theorem dp_ints : ∀ ns : List Int, DpAll K H (ns.map V.int) (ns.map PyData.int)
  | [] => .nil
  | n :: r => .cons (.int n) (dp_ints r)
theorem tup_shaped (ns : List Int) : SeqAt.shaped (.tuple (ns.map PyData.int)) = true := by
  show (PyData.canLay0 (.tuple (ns.map PyData.int)) && decide (PyData.depth (.tuple (ns.map PyData.int)) ≤ 64)) = true
  rw [Bool.and_eq_true]
  exact ⟨by simp only [PyData.canLay0, canLayAll_ints], decide_eq_true (by simp only [PyData.depth, depthAll_ints]; decide)⟩
end
end Sw
namespace Sw
open PySem PySem.Spec PyProof.Rows L2 Evl
local macro_rules | `(tactic| walk_at "ev") => `(tactic| first
  | exact ev_c
  | exact ev_var rfl
  | ((with_reducible show Ev (tCB rMax2 _) _ _ _); exact ev_maxi (by walk_at "ev") (by walk_at "ev"))
  | ((with_reducible show Ev (tCB rMn _) _ _ _); exact ev_min2 (by walk_at "ev") (by walk_at "ev"))
  | ((with_reducible show Ev (tUn _ _) _ _ _); exact ev_un (by walk_at "ev") ru_neg)
  | ((with_reducible show Ev (tFld _ _ _) _ _ _); exact ev_fldK (by walk_at "ev") (by assumption))
  | ((with_reducible show Ev (tOp (rI0 _) _ _) _ _ _); exact ev_op (by walk_at "ev") (by walk_at "ev") rv_I0)
  | ((with_reducible show Ev (tOp rEq _ _) _ _ _); exact ev_op (by walk_at "ev") (by walk_at "ev") (rv_eq rfl))
  | ((with_reducible show Ev (tOp rNe _ _) _ _ _); exact ev_op (by walk_at "ev") (by walk_at "ev") (rv_ne rfl)))

structure Good (bs ds : List Int) : Prop where
  n0 : 0 < bs.length
  n1 : bs.length ≤ 24
  ld : ds.length = bs.length
  b0 : ∀ x ∈ bs, 0 ≤ x ∧ x ≤ 1000000000
  d0 : ∀ x ∈ ds, 0 ≤ x ∧ x ≤ 1000000000
section
theorem sum_take_succ (xs : List Int) (i : Nat) : (xs.take (i + 1)).sum = (xs.take i).sum + xs.getD i 0 := by
  induction xs generalizing i with
  | nil => simp
  | cons a r ih =>
    cases i with
    | zero => simp
    | succ i =>
      have z := ih i
      simp only [List.take_succ_cons, List.sum_cons, List.getD_cons_succ]
      omega
def psum (f : Nat → Int) : Nat → Int
  | 0 => 0
  | t + 1 => psum f t + f t
theorem psum_add (f : Nat → Int) (a b : Nat) : psum f (a + b) = psum f a + psum (fun j => f (a + j)) b := by
  induction b with
  | zero => simp [psum]
  | succ b ih =>
    show psum f (a + b) + f (a + b) = _
    rw [ih]
    show _ = psum f a + (psum (fun j => f (a + j)) b + f (a + b))
    omega
theorem psum_congr {f g : Nat → Int} {n : Nat} (h : ∀ j, j < n → f j = g j) : psum f n = psum g n := by
  induction n with
  | zero => rfl
  | succ n ih =>
    show psum f n + f n = psum g n + g n
    rw [ih fun j hj => h j (by omega), h n (by omega)]
theorem psum_zero (n : Nat) : psum (fun _ => 0) n = 0 := by
  induction n with
  | zero => rfl
  | succ n ih => show psum _ n + 0 = 0; rw [ih]; rfl
theorem psum_sub (f g : Nat → Int) (n : Nat) : psum (fun j => f j - g j) n = psum f n - psum g n := by
  induction n with
  | zero => simp [psum]
  | succ n ih => show psum _ n + (f n - g n) = psum f n + f n - (psum g n + g n); rw [ih]; omega
theorem psum_take (xs : List Int) : ∀ n, (xs.take n).sum = psum (fun j => xs.getD j 0) n := by
  intro n
  induction n with
  | zero => simp [psum]
  | succ n ih => rw [sum_take_succ, ih]; rfl
end
/-! ### the checks, where nothing is wrong -/
variable {P : Program} {w : World} {K : PySem.W.Frag} {mg : Str → Option Value} {base : Heap} {Z : Ad}
def sp_num : Sp := fun vs H Q _ => ∃ n lo hi : Int, vs = [.int n, .int lo, .int hi] ∧ lo ≤ n ∧ n ≤ hi ∧ RetV .non H Q
theorem spv_num {H : Hp} {n lo hi : Int} (h1 : lo ≤ n) (h2 : n ≤ hi) : SpV sp_num [.int n, .int lo, .int hi] H .non := fun _ _ _ q _ => ⟨n, lo, hi, rfl, h1, h2, q⟩
theorem ok_check_number (T : Txt K mg Z) : FnOk P w K mg base CX0 1 Z.f_check_number Z.d_check_number p_check_number sp_num := by
  refine T.F_check_number.ok sc_check_number (fun vs H Q E h => ?_) (fun cdv Ar outer s H vs Q E hr h => ?_)
  · obtain ⟨n, lo, hi, rfl, _⟩ := h
    rfl
  · obtain ⟨n, lo, hi, rfl, h1, h2, k⟩ := h
    refine ⟨_, (pss_one (ps_if (PW.pt (pw_or (pt_cmpR op_lt (pv 0) (pv 1) (nomark _)) (pw_or1 (pt_cmpR op_gt (pv 0) (pv 2) (nomark _))))) (pss_one ps_no) pss_nil)), ?_⟩
    refine s_when (b := false) (et_is (et_or (et_test (by walk_at "ev")) fun _ => et_test (by walk_at "ev")) (by simp; omega)) (fun hb => nomatch hb) fun _ H1 e1 => k H1 e1
def sp_amounts (K : PySem.W.Frag) : Sp := fun vs H Q _ => ∃ (s : Str) (a : Addr) (am : List Int), vs = [.str s, .ref a] ∧ SqT K H a (am.map V.int) ∧ am.length ≤ 24 ∧ (∀ x ∈ am, 0 ≤ x ∧ x ≤ 1000000000) ∧ RetV .non H Q
theorem spv_amounts {H : Hp} {s : Str} {a : Addr} {am : List Int} (h : SqT K H a (am.map V.int)) (h1 : am.length ≤ 24) (h2 : ∀ x ∈ am, 0 ≤ x ∧ x ≤ 1000000000) : SpV (sp_amounts K) [.str s, .ref a] H .non := fun _ e _ q _ => ⟨s, a, am, rfl, ex_t e h, h1, h2, q⟩
theorem ok_check_amounts (T : Txt K mg Z) : FnOk P w K mg base CX0 3 Z.f_check_amounts Z.d_check_amounts p_check_amounts (sp_amounts K) := by
  refine T.F_check_amounts.ok sc_check_amounts (fun vs H Q E h => ?_) (fun cdv Ar outer s H vs Q E hr h => ?_)
  · obtain ⟨s, a, am, rfl, _⟩ := h
    rfl
  · obtain ⟨s, a, am, rfl, hS, hl, hb, k⟩ := h
    obtain ⟨cr, u, cv⟩ := T.cv_Bakery_MAX_DAYS
    refine ⟨_, (pss_one (ps_for PassesOwn.never rfl (pi_enumTK K rfl (by rfl) T.b_enumerate (pa_cons (pv 1) pa_nil)) (by exact (pg_tupK K (n := 2) rfl rfl (pgs_cons (pg_name (i := 2) sc_check_amounts.nd rfl (Or.inl rfl)) (pgs_cons (pg_name (i := 3) sc_check_amounts.nd rfl (Or.inl rfl)) pgs_nil)))) (pss_one (ps_if (PW.pt (pw_or (pt_cmpR op_eq (pv 2) (ClX.pe_cval (pe_glob (v := .ref Z.c_Bakery) (by rfl) T.g_Bakery rfl) rfl) (nomark _)) (pw_or (pt_cmpR op_lt (pv 3) pe_int (nomark _)) (pw_or1 (pt_cmpR op_gt (pv 3) (pe_glob (v := .int 1000000000) (by rfl) T.g_MOST_LOAVES ⟨_, rfl⟩) (nomark _)))))) (pss_one ps_no) pss_nil)))), ?_⟩
    refine s_forEnT (ea_cons (ev_var rfl) ea_nil) hS (fun i σ' H' => (∃ x y, σ' = [some (.str s), some (.ref a), x, y]) ∧ Ex H H') (fun H1 e1 => ⟨⟨_, _, rfl⟩, e1⟩) (fun i σ' H' _ p => p.2) ?_ ?_
    · rintro i x σ' H' hx ⟨⟨_, _, rfl⟩, e1⟩ H2 e2
      obtain ⟨rfl, hi⟩ := at_map hx
      have hb' := getD_mem0 (i := i) hb
      refine s_when (b := false) (et_is (et_or (et_test (ev_op (ev_var rfl) (ev_cval ev_c cr cv) (rv_eq rfl))) fun _ => et_or (et_test (by walk_at "ev")) fun _ => et_test (by walk_at "ev")) ?_) (fun hb => nomatch hb) fun _ H3 e3 => ⟨⟨_, _, rfl⟩, (e1.trans e2).trans e3⟩
      have q : ¬ (V.int (i : Nat) = V.int 24) := fun z => by injection z with z; omega
      generalize am.getD i 0 = v at hb'
      simp [q]; omega
    · rintro σ' H' ⟨⟨_, _, rfl⟩, e1⟩
      exact k H' e1
def sp_life1 : Sp := fun vs H Q _ => ∃ life : Int, vs = [.int life] ∧ 1 ≤ life ∧ life ≤ 30 ∧ RetV .non H Q
theorem spv_life {H : Hp} {life : Int} (l0 : 1 ≤ life) (l1 : life ≤ 30) : SpV sp_life1 [.int life] H .non := fun _ e _ q _ => ⟨life, rfl, l0, l1, q⟩
theorem ok_check_life (T : Txt K mg Z) : FnOk P w K mg base CX0 3 Z.f_check_life Z.d_check_life p_check_life sp_life1 := by
  refine T.F_check_life.ok sc_check_life (fun vs H Q E h => ?_) (fun cdv Ar outer s H vs Q E hr h => ?_)
  · obtain ⟨life, rfl, _⟩ := h
    rfl
  · obtain ⟨life, rfl, l0, l1, k⟩ := h
    obtain ⟨cr, u, cv⟩ := T.cv_Bakery_MAX_LIFE
    refine ⟨_, (pss_one (ps_if (PW.pt (pw_or (pt_cmpR op_lt (pv 0) pe_int (nomark _)) (pw_or1 (pt_cmpR op_gt (pv 0) (ClX.pe_cval (pe_glob (v := .ref Z.c_Bakery) (by rfl) T.g_Bakery rfl) rfl) (nomark _))))) (pss_one ps_no) pss_nil)), ?_⟩
    refine s_when (b := false) (et_is (et_or (et_test (by walk_at "ev")) fun _ => et_test (ev_op (ev_var rfl) (ev_cval ev_c cr cv) rv_I0)) (by simp; omega)) (fun hb => nomatch hb) fun _ H5 e5 => k H5 e5
def sp_check (K : PySem.W.Frag) : Sp := fun vs H Q _ => ∃ (a b : Addr) (bs ds : List Int) (life : Int), vs = [.ref a, .ref b, .int life] ∧ SqT K H a (bs.map V.int) ∧ SqT K H b (ds.map V.int) ∧ Good bs ds ∧ 1 ≤ life ∧ life ≤ 30 ∧ RetV .non H Q
theorem ok_check_bakery (T : Txt K mg Z) : FnOk P w K mg base CX0 4 Z.f_check_bakery Z.d_check_bakery p_check_bakery (sp_check K) := by
  refine T.F_check_bakery.ok sc_check_bakery (fun vs H Q E h => ?_) (fun cdv Ar outer s H vs Q E hr h => ?_)
  · obtain ⟨a, b, bs, ds, life, rfl, _⟩ := h
    rfl
  · obtain ⟨a, b, bs, ds, life, rfl, hB, hD, gd, l0, l1, k⟩ := h
    have h0 := gd.n0
    have hn := gd.n1
    have hld := gd.ld
    have e24 : ((bs.map V.int).length : Int) = (bs.length : Int) := by rw [List.length_map]
    have e24' : ((ds.map V.int).length : Int) = (ds.length : Int) := by rw [List.length_map]
    refine ⟨_, (pss_cons (ps_expr (pe_call (ok_check_amounts T) (hr.mono (by decide)) (by rfl) T.g_check_amounts T.F_check_amounts.kp T.b_check_amounts .nil pass0 (pa_cons pe_str (pa_cons (pv 0) pa_nil))))
      (pss_cons (ps_if (pt_cmpR op_eq (pe_callB (r := rLenS K) (call_len_seq) (by rfl) T.b_len boot_len (pa_cons (pv 0) pa_nil)) pe_int (nomark _)) (pss_one ps_no) pss_nil)
      (pss_cons (ps_expr (pe_call (ok_check_amounts T) (hr.mono (by decide)) (by rfl) T.g_check_amounts T.F_check_amounts.kp T.b_check_amounts .nil pass0 (pa_cons pe_str (pa_cons (pv 1) pa_nil))))
      (pss_cons (ps_if (pt_cmpR op_ne (pe_callB (r := rLenS K) (call_len_seq) (by rfl) T.b_len boot_len (pa_cons (pv 1) pa_nil)) (pe_callB (r := rLenS K) (call_len_seq) (by rfl) T.b_len boot_len (pa_cons (pv 0) pa_nil)) (nomark _)) (pss_one ps_no) pss_nil)
      (pss_one (ps_expr (pe_call (ok_check_life T) (hr.mono (by decide)) (by rfl) T.g_check_life T.F_check_life.kp T.b_check_life .nil pass0 (pa_cons (pv 2) pa_nil)))))))), ?_⟩
    refine q_drop (ev_call (ea_cons ev_c (ea_cons (ev_var rfl) ea_nil)) (spv_amounts hB (by omega) gd.b0)) fun H1 e1 => ?_
    refine q_when (b := false) (et_is (et_test (ev_op (Ev.int_eq (ev_lenT (ev_var rfl) (ex_t e1 hB)) e24) ev_c (rv_eq rfl))) ?_) (fun hb => nomatch hb) fun _ H2 e2 => ?_
    · have q : ¬ (V.int (bs.length : Int) = V.int 0) := fun z => by injection z with z; omega
      simp [q]
    refine q_drop (ev_call (ea_cons ev_c (ea_cons (ev_var rfl) ea_nil)) (spv_amounts (ex_t (e1.trans e2) hD) (by omega) gd.d0)) fun H3 e3 => ?_
    have eA := (e1.trans e2).trans e3
    refine q_when (b := false) (et_is (et_test (ev_op (Ev.int_eq (ev_lenT (ev_var rfl) (ex_t eA hD)) e24') (Ev.int_eq (ev_lenT (ev_var rfl) (ex_t eA hB)) e24) (rv_ne rfl))) ?_) (fun hb => nomatch hb) fun _ H4 e4 => ?_
    · have q : V.int (ds.length : Int) = V.int (bs.length : Int) := by rw [hld]
      simp [q]
    exact s_drop (ev_call (ea_cons (ev_var rfl) ea_nil) (spv_life l0 l1)) fun H5 e5 => k H5 ((eA.trans e4).trans e5)
end Sw
namespace Sw
open PySem PySem.Spec PyProof.Rows L2 Evl LamX NdefX
local macro_rules | `(tactic| walk_at "ev") => `(tactic| first
  | exact ev_c
  | exact ev_var rfl
  | ((with_reducible show Ev (tCB rMax2 _) _ _ _); exact ev_maxi (by walk_at "ev") (by walk_at "ev"))
  | ((with_reducible show Ev (tCB rMn _) _ _ _); exact ev_min2 (by walk_at "ev") (by walk_at "ev"))
  | ((with_reducible show Ev (tUn _ _) _ _ _); exact ev_un (by walk_at "ev") ru_neg)
  | ((with_reducible show Ev (tFld _ _ _) _ _ _); exact ev_fldK (by walk_at "ev") (by assumption))
  | ((with_reducible show Ev (tOp (rI0 _) _ _) _ _ _); exact ev_op (by walk_at "ev") (by walk_at "ev") rv_I0)
  | ((with_reducible show Ev (tOp rEq _ _) _ _ _); exact ev_op (by walk_at "ev") (by walk_at "ev") (rv_eq rfl))
  | ((with_reducible show Ev (tOp rNe _ _) _ _ _); exact ev_op (by walk_at "ev") (by walk_at "ev") (rv_ne rfl)))

variable {P : Program} {w : World} {K : PySem.W.Frag} {mg : Str → Option Value} {base : Heap} {Z : Ad}
/-- what is raised: an error of a bakery, its dict -/
def RaiB (Z : Ad) (p : Str) (i : Int) (H : Hp) (E : XK) : Prop := ∀ d H', Ex H H' → H d = none → H' d = some (.xd [("index", .int i), ("part", .str p)]) → E (.ref Z.c_InvalidBakery) (some d) H'
theorem RaiB.mono {p : Str} {i : Int} {H H' : Hp} {E : XK} (e : Ex H H') (h : RaiB Z p i H E) : RaiB Z p i H' E := fun d H2 e2 n x => h d H2 (e.trans e2) (fresh_back e n) x
def sp_IB (Z : Ad) : Sp := fun vs H Q _ => ∃ (a : Addr) (p : Str) (i : Int), vs = [.ref a, .str p, .int i] ∧ p.length ≤ 1000 ∧ -1000 < i ∧ i < 1000 ∧ H a = some (exo a Z.c_InvalidBakery none) ∧
  ∀ dx H', H dx = none → dx ≠ a → H' a = some (exo a Z.c_InvalidBakery (some dx)) → H' dx = some (exd dx [("index", .int i), ("part", .str p)]) → (∀ b o, H b = some o → b ≠ a → H' b = some o) → Q .non H'
theorem ok_InvalidBakery___init__ (T : Txt K mg Z) (hP : P = Z.P) : FnOk P w K mg base L2.CX0 1 Z.f_InvalidBakery___init__ Z.d_InvalidBakery___init__ p_InvalidBakery___init__ (sp_IB Z) := by
  subst hP
  refine sup_fn (k := 0) (CX := L2.CX0) T.xs_InvalidBakery T.ox_InvalidBakery rfl sc_InvalidBakery___init__ rfl rfl rfl rfl T.b_super (fun _ => rfl) (fun _ _ => rfl) (fun _ => rfl) (fun vs H Q E ⟨a, p, i, e, _⟩ => by rw [e]; rfl) (fun A outer s H vs Q E hr ⟨a, p, i, e, hp, h0, h1, ha, k⟩ => ?_)
  subst e
  refine ⟨_, _, a, [.str p, .int i], pa_cons (pe_joined (.cons pe_str (.cons (pe_fmt (pv 1)) (.cons pe_str (.cons (pe_fmt (pv 2)) (.cons pe_str .nil)))))) pa_nil, pss_cons (ps_ost (pv 0) (pv 1)) (pss_one (ps_ost (pv 0) (pv 2))), rfl, ha, ?_⟩
  have hi : (Str.ofString (toString i)).length ≤ 4 := by
    rw [PySem.ofString_length]
    exact int_text_length_le10 (k := 3) (by decide) (by omega)
  have hz := sizeLine_eq
  have l1 : (Str.ofString "wrong ").length = 6 := by decide +kernel
  have l2 : (Str.ofString " (index ").length = 8 := by decide +kernel
  have l3 : (Str.ofString ")").length = 1 := by decide +kernel
  have l0 : Str.empty.length = 0 := rfl
  have lg : i.natAbs.log2 < 1920 := by
    rcases Nat.eq_zero_or_pos i.natAbs with q | q
    · rw [q]; decide
    · exact Nat.lt_of_le_of_lt (Nat.log2_le_self _) (by omega)
  refine ⟨_, rfl, ?_, _, rfl, .inl ⟨p, rfl, by omega, p, rfl, ?_, _, rfl, ?_, _, rfl, .inr ⟨i, rfl, lg, _, rfl, ?_, _, rfl, ?_, by show 1 ≤ 1000; decide, ha, ?_⟩⟩⟩
  · rw [Str.length_append]; omega
  · simp only [Str.length_append]; omega
  · simp only [Str.length_append]; omega
  · simp only [Str.length_append]; omega
  · simp only [Str.length_append]; omega
  refine ⟨_, rfl, _, rfl, a, Z.c_InvalidBakery, rfl, T.ox_InvalidBakery, T.na_InvalidBakery_part, .inl ⟨ha, fun dx hd ne => ⟨_, rfl, _, rfl, a, Z.c_InvalidBakery, rfl, T.ox_InvalidBakery, T.na_InvalidBakery_index, .inr ⟨dx, [("part", .str p)], upd_same, (upd_ne ne).trans upd_same, by show 1 ≤ 900; decide, k dx _ hd ne ?_ upd_same fun b o q n => ?_⟩⟩⟩⟩
  · exact (upd_ne (Ne.symm ne)).trans upd_same
  · rw [upd_ne (ne_of_none q hd), upd_ne n, upd_ne (ne_of_none q hd)]; exact q
theorem rs_bak {σ : L2.St} {H : Hp} {t : TA} {p : Str} {i : Int} {E : XK} (ha : EvA t σ H [.str p, .int i]) (hp : p.length ≤ 1000) (h0 : -1000 < i) (h1 : i < 1000) (k : RaiB Z p i H E) : tMkO Z.c_InvalidBakery (sp_IB Z) [] t σ H (fun cls d H' => E cls d H') :=
  ha H (Ex.refl H) _ fun H1 e1 => ⟨by show 2 ≤ 1000; decide, fun a na => ⟨a, p, i, rfl, hp, h0, h1, upd_same, fun dx H' hd ne x1 x2 x3 => by
    rw [upd_ne ne] at hd
    refine ⟨rfl, dx, _, x1, x2, hd, k dx _ (fun b o q => ?_) (fresh_back e1 hd) upd_same⟩
    have q1 := e1 b o q
    rw [upd_ne (ne_of_none q1 hd), del_ne (ne_of_none q1 na)]
    exact x3 b o ((upd_ne (ne_of_none q1 na)).trans q1) (ne_of_none q1 na)⟩⟩
/-! ### the first fault -/
def badP (am : List Int) (i : Nat) : Bool := decide ((i : Int) = 24) || (decide (am.getD i 0 < 0) || decide (1000000000 < am.getD i 0))
def badAt (am : List Int) : Option Nat := (List.range am.length).find? (badP am)
theorem badAt_is {am : List Int} {i : Nat} (h : ∀ j, j < i → badP am j = false) (hb : badP am i = true) (hi : i < am.length) : badAt am = some i := by
  unfold badAt
  rw [List.find?_range_eq_some]
  exact ⟨hb, List.mem_range.mpr hi, fun j hj => by rw [h j hj]; rfl⟩
theorem badAt_no {am : List Int} (h : ∀ j, j < am.length → badP am j = false) : badAt am = none := by
  unfold badAt
  rw [List.find?_eq_none]
  exact fun j hj => by rw [h j (List.mem_range.mp hj)]; decide
theorem badAt_none {am : List Int} (h : badAt am = none) {j : Nat} (hj : j < am.length) : badP am j = false := by
  unfold badAt at h
  rw [List.find?_eq_none] at h
  exact Bool.eq_false_iff.mpr (h j (List.mem_range.mpr hj))
theorem badAt_some {am : List Int} {i : Nat} (h : badAt am = some i) : badP am i = true ∧ i < am.length ∧ ∀ j, j < i → badP am j = false := by
  unfold badAt at h
  rw [List.find?_range_eq_some] at h
  exact ⟨h.1, List.mem_range.mp h.2.1, fun j hj => by have z := h.2.2 j hj; simpa using z⟩
theorem badAt_le {am : List Int} {i : Nat} (h : badAt am = some i) : i ≤ 24 := by
  obtain ⟨_, hl, hn⟩ := badAt_some h
  refine Nat.le_of_not_lt fun q => ?_
  have z := hn 24 q
  simp [badP] at z
def sp_amountsX (K : PySem.W.Frag) (Z : Ad) : Sp := fun vs H _ E => ∃ (s : Str) (a : Addr) (am : List Int) (i : Nat), vs = [.str s, .ref a] ∧ s.length ≤ 1000 ∧ SqT K H a (am.map V.int) ∧ am.length ≤ 1000 ∧ badAt am = some i ∧ RaiB Z s (i : Int) H E
theorem okX_check_amounts (T : Txt K mg Z) (hP : P = Z.P) : FnOk P w K mg base (L2.CX P w) 3 Z.f_check_amounts Z.d_check_amounts p_check_amounts (sp_amountsX K Z) := by
  refine T.F_check_amounts.okX sc_check_amounts (fun vs H Q E h => ?_) (fun cdv Ar outer s H vs Q E hr h => ?_)
  · obtain ⟨s, a, am, i, rfl, _⟩ := h
    rfl
  · obtain ⟨s, a, am, i0, rfl, hs, hS, hl, hb, k⟩ := h
    obtain ⟨cr, u, cv⟩ := T.cv_Bakery_MAX_DAYS
    have h24 := badAt_le hb
    refine ⟨_, (pss_one (ps_for (passes_of rfl) rfl (pi_enumTK K rfl (by rfl) T.b_enumerate (pa_cons (pv 1) pa_nil)) (by exact (pg_tupK K (n := 2) rfl rfl (pgs_cons (pg_name (i := 2) sc_check_amounts.nd rfl (Or.inl rfl)) (pgs_cons (pg_name (i := 3) sc_check_amounts.nd rfl (Or.inl rfl)) pgs_nil)))) (pss_one (ps_if (PW.pt (pw_or (pt_cmpR op_eq (pv 2) (ClX.pe_cval (pe_glob (v := .ref Z.c_Bakery) (by rfl) T.g_Bakery rfl) rfl) (nomark _)) (pw_or (pt_cmpR op_lt (pv 3) pe_int (nomark _)) (pw_or1 (pt_cmpR op_gt (pv 3) (pe_glob (v := .int 1000000000) (by rfl) T.g_MOST_LOAVES ⟨_, rfl⟩) (nomark _)))))) (pss_one (ps_raise rfl (takes_of rfl rfl rfl rfl) (pmk_oex T.ox_InvalidBakery T.xi_InvalidBakery T.xt_InvalidBakery (ok_InvalidBakery___init__ T hP) (hr.mono (by decide)) T.b_InvalidBakery___init__ .nil pass0 (by rfl) T.g_InvalidBakery (pa_cons (pv 0) (pa_cons (pv 2) pa_nil))))) pss_nil)))), ?_⟩
    refine s_forEnT (ea_cons (ev_var rfl) ea_nil) hS (fun i σ' H' => (∃ x y, σ' = [some (.str s), some (.ref a), x, y]) ∧ Ex H H' ∧ ∀ j, j < i → badP am j = false) (fun H1 e1 => ⟨⟨_, _, rfl⟩, e1, fun j hj => absurd hj (by omega)⟩) (fun i σ' H' _ p => p.2.1) ?_ ?_
    · rintro i x σ' H' hx ⟨⟨_, _, rfl⟩, e1, hn⟩ H2 e2
      obtain ⟨rfl, hi⟩ := at_map hx
      refine s_when (b := badP am i) (et_is (et_or (et_test (ev_op (ev_var rfl) (ev_cval ev_c cr cv) (rv_eq rfl))) fun _ => et_or (et_test (by walk_at "ev")) fun _ => et_test (by walk_at "ev")) ?_) (fun hb1 H3 e3 => ?_) fun hb1 H3 e3 => ⟨⟨_, _, rfl⟩, (e1.trans e2).trans e3, fun j hj => ?_⟩
      · have q : (V.int (i : Nat) = V.int 24) ↔ ((i : Int) = 24) := ⟨fun z => by injection z, fun z => by rw [z]⟩
        simp [badP, q]
      · have z := badAt_is hn hb1 hi
        rw [hb] at z
        cases z
        exact rs_bak (ea_cons (ev_var rfl) (ea_cons (ev_var rfl) ea_nil)) hs (by omega) (by omega) (k.mono ((e1.trans e2).trans e3))
      · rcases Nat.lt_or_eq_of_le (Nat.le_of_lt_succ hj) with q | q
        · exact hn j q
        · rw [q]; exact hb1
    · rintro σ' H' ⟨⟨_, _, rfl⟩, e1, hn⟩
      rw [badAt_no fun j hj => hn j (by rw [List.length_map]; exact hj)] at hb
      cases hb
end Sw
namespace Sw
open PySem PySem.Spec PyProof.Rows L2 Evl LamX NdefX
local macro_rules | `(tactic| walk_at "ev") => `(tactic| first
  | exact ev_c
  | exact ev_var rfl
  | ((with_reducible show Ev (tCB rMax2 _) _ _ _); exact ev_maxi (by walk_at "ev") (by walk_at "ev"))
  | ((with_reducible show Ev (tCB rMn _) _ _ _); exact ev_min2 (by walk_at "ev") (by walk_at "ev"))
  | ((with_reducible show Ev (tUn _ _) _ _ _); exact ev_un (by walk_at "ev") ru_neg)
  | ((with_reducible show Ev (tFld _ _ _) _ _ _); exact ev_fldK (by walk_at "ev") (by assumption))
  | ((with_reducible show Ev (tOp (rI0 _) _ _) _ _ _); exact ev_op (by walk_at "ev") (by walk_at "ev") rv_I0)
  | ((with_reducible show Ev (tOp rEq _ _) _ _ _); exact ev_op (by walk_at "ev") (by walk_at "ev") (rv_eq rfl))
  | ((with_reducible show Ev (tOp rNe _ _) _ _ _); exact ev_op (by walk_at "ev") (by walk_at "ev") (rv_ne rfl)))

/-! ### bakeries that are wrong -/
theorem bad_good {am : List Int} (h : badAt am = none) : am.length ≤ 24 ∧ ∀ x ∈ am, 0 ≤ x ∧ x ≤ 1000000000 := by
  constructor
  · refine Nat.le_of_not_lt fun q => ?_
    have z := badAt_none h q
    simp [badP] at z
  · intro x hx
    obtain ⟨j, hj, e⟩ := List.getElem_of_mem hx
    have z := badAt_none h hj
    have e2 : am.getD j 0 = x := by simp [List.getD, hj, e]
    simp only [badP, e2, Bool.or_eq_false_iff, decide_eq_false_iff_not] at z
    omega
/-- the fault of a bakery of these numbers -/
def dueB (bs ds : List Int) (life : Int) : Option (Str × Int) := match badAt bs with
  | some i => some ("bakes", (i : Int))
  | none => if bs.length = 0 then some ("bakes", -1) else match badAt ds with
    | some i => some ("demands", (i : Int))
    | none => if ds.length ≠ bs.length then some ("demands", -1) else if life < 1 ∨ 30 < life then some ("life", -1) else none
variable {P : Program} {w : World} {K : PySem.W.Frag} {mg : Str → Option Value} {base : Heap} {Z : Ad}
theorem okM_check_amounts (T : Txt K mg Z) (hP : P = Z.P) : FnOk P w K mg base (L2.CX P w) 3 Z.f_check_amounts Z.d_check_amounts p_check_amounts (spOr (sp_amounts K) (sp_amountsX K Z)) := fn_or (fn_lift (ok_check_amounts T)) (okX_check_amounts T hP)
def sp_lifeX (Z : Ad) : Sp := fun vs H _ E => ∃ life : Int, vs = [.int life] ∧ (life < 1 ∨ 30 < life) ∧ RaiB Z (Str.ofString "life") (-1) H E
theorem okX_check_life (T : Txt K mg Z) (hP : P = Z.P) : FnOk P w K mg base (L2.CX P w) 3 Z.f_check_life Z.d_check_life p_check_life (sp_lifeX Z) := by
  refine T.F_check_life.okX sc_check_life (fun vs H Q E h => ?_) (fun cdv Ar outer s H vs Q E hr h => ?_)
  · obtain ⟨life, rfl, _⟩ := h
    rfl
  · obtain ⟨life, rfl, hl, k⟩ := h
    obtain ⟨cr, u, cv⟩ := T.cv_Bakery_MAX_LIFE
    have z3 : (Str.ofString "life").length ≤ 1000 := by decide +kernel
    refine ⟨_, (pss_one (ps_if (PW.pt (pw_or (pt_cmpR op_lt (pv 0) pe_int (nomark _)) (pw_or1 (pt_cmpR op_gt (pv 0) (ClX.pe_cval (pe_glob (v := .ref Z.c_Bakery) (by rfl) T.g_Bakery rfl) rfl) (nomark _))))) (pss_one (ps_raise rfl (takes_of rfl rfl rfl rfl) (pmk_oex T.ox_InvalidBakery T.xi_InvalidBakery T.xt_InvalidBakery (ok_InvalidBakery___init__ T hP) (hr.mono (by decide)) T.b_InvalidBakery___init__ .nil pass0 (by rfl) T.g_InvalidBakery (pa_cons pe_str (pa_cons (pe_un un_neg pe_int) pa_nil))))) pss_nil)), ?_⟩
    refine s_when (b := true) (et_is (et_or (et_test (by walk_at "ev")) fun _ => et_test (ev_op (ev_var rfl) (ev_cval ev_c cr cv) rv_I0)) (by simp; omega)) (fun _ H5 e5 => ?_) fun hb => nomatch hb
    exact rs_bak (ea_cons ev_c (ea_cons (ev_un ev_c ru_neg) ea_nil)) z3 (by decide) (by decide) (k.mono e5)
theorem okM_check_life (T : Txt K mg Z) (hP : P = Z.P) : FnOk P w K mg base (L2.CX P w) 3 Z.f_check_life Z.d_check_life p_check_life (spOr sp_life1 (sp_lifeX Z)) := fn_or (fn_lift (ok_check_life T)) (okX_check_life T hP)
def sp_checkX (K : PySem.W.Frag) (Z : Ad) : Sp := fun vs H _ E => ∃ (a b : Addr) (bs ds : List Int) (life : Int) (p : Str) (i : Int), vs = [.ref a, .ref b, .int life] ∧ SqT K H a (bs.map V.int) ∧ SqT K H b (ds.map V.int) ∧ bs.length ≤ 1000 ∧ ds.length ≤ 1000 ∧ dueB bs ds life = some (p, i) ∧ RaiB Z p i H E
theorem okX_check_bakery (T : Txt K mg Z) (hP : P = Z.P) : FnOk P w K mg base (L2.CX P w) 4 Z.f_check_bakery Z.d_check_bakery p_check_bakery (sp_checkX K Z) := by
  refine T.F_check_bakery.okX sc_check_bakery (fun vs H Q E h => ?_) (fun cdv Ar outer s H vs Q E hr h => ?_)
  · obtain ⟨a, b, bs, ds, life, p, i, rfl, _⟩ := h
    rfl
  · obtain ⟨a, b, bs, ds, life, p, i, rfl, hB, hD, lb, ld, hd, k⟩ := h
    have e24 : ((bs.map V.int).length : Int) = (bs.length : Int) := by rw [List.length_map]
    have e24' : ((ds.map V.int).length : Int) = (ds.length : Int) := by rw [List.length_map]
    have z1 : (Str.ofString "bakes").length ≤ 1000 := by decide +kernel
    have z2 : (Str.ofString "demands").length ≤ 1000 := by decide +kernel
    have z3 : (Str.ofString "life").length ≤ 1000 := by decide +kernel
    refine ⟨_, (pss_cons (ps_expr (pe_call (okM_check_amounts T hP) (hr.mono (by decide)) (by rfl) T.g_check_amounts T.F_check_amounts.kp T.b_check_amounts .nil (passes_call (takes_of rfl rfl rfl rfl) (fun _ _ _ _ h => h)) (pa_cons pe_str (pa_cons (pv 0) pa_nil))))
      (pss_cons (ps_if (pt_cmpR op_eq (pe_callB (r := rLenS K) (call_len_seq) (by rfl) T.b_len boot_len (pa_cons (pv 0) pa_nil)) pe_int (nomark _)) (pss_one (ps_raise rfl (takes_of rfl rfl rfl rfl) (pmk_oex T.ox_InvalidBakery T.xi_InvalidBakery T.xt_InvalidBakery (ok_InvalidBakery___init__ T hP) (hr.mono (by decide)) T.b_InvalidBakery___init__ .nil pass0 (by rfl) T.g_InvalidBakery (pa_cons pe_str (pa_cons (pe_un un_neg pe_int) pa_nil))))) pss_nil)
      (pss_cons (ps_expr (pe_call (okM_check_amounts T hP) (hr.mono (by decide)) (by rfl) T.g_check_amounts T.F_check_amounts.kp T.b_check_amounts .nil (passes_call (takes_of rfl rfl rfl rfl) (fun _ _ _ _ h => h)) (pa_cons pe_str (pa_cons (pv 1) pa_nil))))
      (pss_cons (ps_if (pt_cmpR op_ne (pe_callB (r := rLenS K) (call_len_seq) (by rfl) T.b_len boot_len (pa_cons (pv 1) pa_nil)) (pe_callB (r := rLenS K) (call_len_seq) (by rfl) T.b_len boot_len (pa_cons (pv 0) pa_nil)) (nomark _)) (pss_one (ps_raise rfl (takes_of rfl rfl rfl rfl) (pmk_oex T.ox_InvalidBakery T.xi_InvalidBakery T.xt_InvalidBakery (ok_InvalidBakery___init__ T hP) (hr.mono (by decide)) T.b_InvalidBakery___init__ .nil pass0 (by rfl) T.g_InvalidBakery (pa_cons pe_str (pa_cons (pe_un un_neg pe_int) pa_nil))))) pss_nil)
      (pss_one (ps_expr (pe_call (okM_check_life T hP) (hr.mono (by decide)) (by rfl) T.g_check_life T.F_check_life.kp T.b_check_life .nil (passes_call (takes_of rfl rfl rfl rfl) (fun _ _ _ _ h => h)) (pa_cons (pv 2) pa_nil)))))))), ?_⟩
    unfold dueB at hd
    cases h1 : badAt bs with
    | some j =>
      rw [h1] at hd
      cases hd
      exact q_rz (ea_cons ev_c (ea_cons (ev_var rfl) ea_nil)) fun H1 e1 Q => .inr ⟨_, a, bs, j, rfl, z1, ex_t e1 hB, lb, h1, k.mono e1⟩
    | none =>
      rw [h1] at hd
      dsimp only at hd
      refine q_drop (ev_call (ea_cons ev_c (ea_cons (ev_var rfl) ea_nil)) (spv_or (spv_amounts hB (bad_good h1).1 (bad_good h1).2))) fun H1 e1 => ?_
      refine q_when (b := decide (bs.length = 0)) (et_is (et_test (ev_op (Ev.int_eq (ev_lenT (ev_var rfl) (ex_t e1 hB)) e24) ev_c (rv_eq rfl))) ?_) (fun hb H2 e2 => ?_) fun hb H2 e2 => ?_
      · have q : (V.int (bs.length : Int) = V.int 0) ↔ bs.length = 0 := ⟨fun z => by injection z with z; omega, fun z => by rw [z]; rfl⟩
        simp only [q]
      · rw [if_pos (of_decide_eq_true hb)] at hd
        cases hd
        exact rs_bak (ea_cons ev_c (ea_cons (ev_un ev_c ru_neg) ea_nil)) z1 (by decide) (by decide) (k.mono (e1.trans e2))
      rw [if_neg (of_decide_eq_false hb)] at hd
      have e12 := e1.trans e2
      cases h2 : badAt ds with
      | some j =>
        rw [h2] at hd
        cases hd
        exact q_rz (ea_cons ev_c (ea_cons (ev_var rfl) ea_nil)) fun H3 e3 Q => .inr ⟨_, b, ds, j, rfl, z2, ex_t (e12.trans e3) hD, ld, h2, k.mono (e12.trans e3)⟩
      | none =>
        rw [h2] at hd
        dsimp only at hd
        refine q_drop (ev_call (ea_cons ev_c (ea_cons (ev_var rfl) ea_nil)) (spv_or (spv_amounts (ex_t e12 hD) (bad_good h2).1 (bad_good h2).2))) fun H3 e3 => ?_
        have eA := e12.trans e3
        refine q_when (b := decide (ds.length ≠ bs.length)) (et_is (et_test (ev_op (Ev.int_eq (ev_lenT (ev_var rfl) (ex_t eA hD)) e24') (Ev.int_eq (ev_lenT (ev_var rfl) (ex_t eA hB)) e24) (rv_ne rfl))) ?_) (fun hb H4 e4 => ?_) fun hb H4 e4 => ?_
        · have q : (V.int (ds.length : Int) = V.int (bs.length : Int)) ↔ ds.length = bs.length := ⟨fun z => by injection z with z; omega, fun z => by rw [z]⟩
          simp [q]
        · rw [if_pos (of_decide_eq_true hb)] at hd
          cases hd
          exact rs_bak (ea_cons ev_c (ea_cons (ev_un ev_c ru_neg) ea_nil)) z2 (by decide) (by decide) (k.mono (eA.trans e4))
        rw [if_neg (of_decide_eq_false hb)] at hd
        by_cases hb : life < 1 ∨ 30 < life
        · rw [if_pos hb] at hd
          cases hd
          exact q_rz (ea_cons (ev_var rfl) ea_nil) fun H5 e5 Q => .inr ⟨life, rfl, hb, k.mono ((eA.trans e4).trans e5)⟩
        · rw [if_neg hb] at hd
          cases hd
theorem okM_check_bakery (T : Txt K mg Z) (hP : P = Z.P) : FnOk P w K mg base (L2.CX P w) 4 Z.f_check_bakery Z.d_check_bakery p_check_bakery (spOr (sp_check K) (sp_checkX K Z)) := fn_or (fn_lift (ok_check_bakery T)) (okX_check_bakery T hP)
/-! ### a number out of its range -/
def sp_numX (Z : Ad) : Sp := fun vs H _ E => ∃ n lo hi : Int, vs = [.int n, .int lo, .int hi] ∧ (n < lo ∨ hi < n) ∧ n.natAbs < 10 ^ 30 ∧ lo.natAbs < 10 ^ 30 ∧ hi.natAbs < 10 ^ 30 ∧ ∀ H', Ex H H' → E (.ref Z.c_InvalidNumber) none H'
theorem log_sm {i : Int} (h : i.natAbs < 10 ^ 30) : i.natAbs.log2 < 1920 := by
  rcases Nat.eq_zero_or_pos i.natAbs with q | q
  · rw [q]; decide
  · exact (Nat.log2_lt (by omega)).mpr (Nat.lt_of_lt_of_le h (by decide))
theorem len_sm {i : Int} (h : i.natAbs < 10 ^ 30) : (Str.ofString (toString i)).length ≤ 31 := by
  rw [PySem.ofString_length]
  exact int_text_length_le10 (k := 30) (by decide) h
theorem okX_check_number (T : Txt K mg Z) (hP : P = Z.P) : FnOk P w K mg base (L2.CX P w) 1 Z.f_check_number Z.d_check_number p_check_number (sp_numX Z) := by
  refine T.F_check_number.okX sc_check_number (fun vs H Q E h => ?_) (fun cdv Ar outer s H vs Q E hr h => ?_)
  · obtain ⟨n, lo, hi, rfl, _⟩ := h
    rfl
  · obtain ⟨n, lo, hi, rfl, hb, h1, h2, h3, k⟩ := h
    refine ⟨_, (pss_one (ps_if (PW.pt (pw_or (pt_cmpR op_lt (pv 0) (pv 1) (nomark _)) (pw_or1 (pt_cmpR op_gt (pv 0) (pv 2) (nomark _))))) (pss_one (ps_raise rfl (takes_of rfl rfl rfl rfl) (pmk_ownA PySem.F.excBase_ValueError T.xp_InvalidNumber T.g_InvalidNumber T.xq_InvalidNumber (raises_own T.xb_InvalidNumber T.xy_InvalidNumber) (by rfl) (pa_cons (pe_joined (.cons (pe_fmt (pv 0)) (.cons pe_str (.cons (pe_fmt (pv 1)) (.cons pe_str (.cons (pe_fmt (pv 2)) .nil)))))) pa_nil)))) pss_nil)), ?_⟩
    refine s_when (b := true) (et_is (et_or (et_test (by walk_at "ev")) fun _ => et_test (by walk_at "ev")) (by simp; omega)) (fun _ H1 e1 => ?_) fun hb => nomatch hb
    have hz := sizeLine_eq
    have a1 := len_sm h1
    have a2 := len_sm h2
    have a3 := len_sm h3
    have l0 : Str.empty.length = 0 := rfl
    have l1 : (Str.ofString " is not from ").length = 13 := by decide +kernel
    have l2 : (Str.ofString " to ").length = 4 := by decide +kernel
    refine ⟨_, rfl, .inr ⟨n, rfl, log_sm h1, _, rfl, ?_, _, rfl, ?_, _, rfl, .inr ⟨lo, rfl, log_sm h2, _, rfl, ?_, _, rfl, ?_, _, rfl, .inr ⟨hi, rfl, log_sm h3, _, rfl, ?_, by show 1 ≤ sizeLine; omega, k H1 e1⟩⟩⟩⟩
    · rw [Str.length_append]; omega
    · simp only [Str.length_append]; omega
    · simp only [Str.length_append]; omega
    · simp only [Str.length_append]; omega
    · simp only [Str.length_append]; omega
theorem okM_check_number (T : Txt K mg Z) (hP : P = Z.P) : FnOk P w K mg base (L2.CX P w) 1 Z.f_check_number Z.d_check_number p_check_number (spOr sp_num (sp_numX Z)) := fn_or (fn_lift (ok_check_number T)) (okX_check_number T hP)
end Sw
namespace Sw
open PySem PySem.Spec PyProof.Rows L2 Evl
local macro_rules | `(tactic| walk_at "ev") => `(tactic| first
  | exact ev_c
  | exact ev_var rfl
  | ((with_reducible show Ev (tCB rMax2 _) _ _ _); exact ev_maxi (by walk_at "ev") (by walk_at "ev"))
  | ((with_reducible show Ev (tCB rMn _) _ _ _); exact ev_min2 (by walk_at "ev") (by walk_at "ev"))
  | ((with_reducible show Ev (tUn _ _) _ _ _); exact ev_un (by walk_at "ev") ru_neg)
  | ((with_reducible show Ev (tFld _ _ _) _ _ _); exact ev_fldK (by walk_at "ev") (by assumption))
  | ((with_reducible show Ev (tOp (rI0 _) _ _) _ _ _); exact ev_op (by walk_at "ev") (by walk_at "ev") rv_I0)
  | ((with_reducible show Ev (tOp rEq _ _) _ _ _); exact ev_op (by walk_at "ev") (by walk_at "ev") (rv_eq rfl))
  | ((with_reducible show Ev (tOp rNe _ _) _ _ _); exact ev_op (by walk_at "ev") (by walk_at "ev") (rv_ne rfl)))

/-! ### the law's draws: a list of the script, a position, a seed, a rest -/
def HS (H : Hp) (h l : Addr) : Prop := ∃ pos m rest : Int, H h = some (.lst [.ref l, .int pos, .int m, .int rest]) ∧ 0 ≤ pos ∧ 0 ≤ m ∧ m < 2147483647 ∧ 0 ≤ rest
def hl (h _l : Addr) : Addr → Prop := fun b => b = h
theorem HS.mono {H H' : Hp} {h l : Addr} (e : Ex H H') (q : HS H h l) : HS H' h l :=
  let ⟨p, m, r, h1, z⟩ := q; ⟨p, m, r, e _ _ h1, z⟩
theorem HS.kn {H : Hp} {h l : Addr} (q : HS H h l) : ∀ b, hl h l b → H b ≠ none := by
  obtain ⟨_, _, _, h1, _⟩ := q
  rintro b rfl z
  rw [h1] at z; cases z
/-- a draw may change h, and makes what it likes -/
structure Dr (h l : Addr) (H H' : Hp) : Prop where
  hs : HS H' h l
  ex : Ex (wn H (hl h l)) (wn H' (hl h l))
theorem Dr.trans {h l : Addr} {H H1 H2 : Hp} (a : Dr h l H H1) (b : Dr h l H1 H2) : Dr h l H H2 := ⟨b.hs, a.ex.trans b.ex⟩
theorem Dr.refl {h l : Addr} {H : Hp} (q : HS H h l) : Dr h l H H := ⟨q, Ex.refl _⟩
theorem Dr.of {h l : Addr} {H H' : Hp} (q : HS H h l) (e : Ex H H') : Dr h l H H' := ⟨q.mono e, wn_mono e⟩
def sp_drawn (K : PySem.W.Frag) : Sp := fun vs H Q _ => ∃ (h l : Addr) (cells : List Int) (count : Int), vs = [.ref h, .int count] ∧ 0 < count ∧ count ≤ 1000000000000000000 ∧ HS H h l ∧ SqL K (wn H (hl h l)) l (cells.map V.int) ∧ ∀ v H', 0 ≤ v → v < count → Dr h l H H' → Q (.int v) H'
section
variable {K : PySem.W.Frag} {σ : L2.St} {H H' : Hp} {ta tb te tx : TE} {x y z v : V} {a h l : Addr} {xs ys : List V}
theorem el_cat (ha : Ev ta σ H (.ref a)) (hx : H a = some (.lst xs)) (hb : EvL tb σ H ys) (hz : xs.length + ys.length ≤ 100000) : EvL (tOp rCat ta tb) σ H (xs ++ ys) := fun H1 e Q q =>
  ha H1 e _ fun H2 e2 => hb H2 (e.trans e2) _ fun p H3 _ e3 hp => ⟨a, p, xs, ys, rfl, rfl, e3 _ _ (e2 _ _ (e _ _ hx)), hp, sz_of hz, fun r hr => q r _ (fresh_back (e2.trans e3) hr) ((e2.trans e3).trans (Ex.new hr)) upd_same⟩
theorem Dr.upd {o : HO} (hN : hl h l a) (q : HS (L2.upd H a o) h l) : Dr h l H (L2.upd H a o) := ⟨q, wn_upd hN⟩
end
variable {P : Program} {w : World} {K : PySem.W.Frag} {mg : Str → Option Value} {base : Heap} {Z : Ad}
def sp_start (K : PySem.W.Frag) : Sp := fun vs H Q _ => ∃ (a : Addr) (ns : List Int), vs = [.ref a] ∧ SqL K H a (ns.map V.int) ∧ ns.length ≤ 63 ∧ ∀ h H', H h = none → Ex H H' → HS H' h a → Q (.ref h) H'
theorem ok__law_start (T : Txt K mg Z) : FnOk P w K mg base CX0 1 Z.f__law_start Z.d__law_start p__law_start (sp_start K) := by
  refine T.F__law_start.ok sc__law_start (fun vs H Q E h => ?_) (fun cdv Ar outer s H vs Q E hr h => ?_)
  · obtain ⟨a, ns, rfl, _⟩ := h
    rfl
  · obtain ⟨a, ns, rfl, hS, hn, k⟩ := h
    refine ⟨_, (pss_cons (ps_set (i := 1) sc__law_start.nd rfl (Or.inl rfl) pe_int)
      (pss_cons (ps_for PassesOwn.never rfl (pi_listK K rfl (pv 0)) (pg_name (i := 2) sc__law_start.nd rfl (Or.inl rfl)) (pss_one (ps_set (i := 1) sc__law_start.nd rfl (Or.inl rfl) (pe_op op_mod (pe_op op_add (pe_op op_add (pe_op op_mul (pv 1) pe_int) (pv 2)) pe_int) pe_int))))
      (pss_one (ps_ret (pe_lst (pa_cons (pv 0) (pa_cons pe_int (pa_cons (pv 1) (pa_cons pe_int pa_nil))))))))), ?_⟩
    refine q_asg ev_c fun H1 e1 => ?_
    refine q_forLn (ev_var rfl) (ex_l e1 hS) (fun i σ' H' => (∃ m x, σ' = [some (.ref a), some (.int m), x] ∧ 0 ≤ m ∧ m < 2147483647) ∧ Ex H H') (fun H2 e2 => ⟨⟨1, _, rfl, by decide, by decide⟩, e1.trans e2⟩) (fun i σ' H' _ p => ex_l p.2 hS) ?_ ?_
    · rintro i x σ' H' hx ⟨⟨m, _, rfl, m0, m1⟩, e2⟩
      obtain ⟨rfl, hi⟩ := at_map hx
      refine s_asg (ev_op (ev_op (ev_op (ev_op (ev_var rfl) ev_c (rv_I (wide_ok (by decide)))) (ev_var rfl) rv_I0) ev_c rv_I0) ev_c (rv_I (by show (0 : Int) < 2147483647; decide))) fun H2 e3 => ?_
      exact ⟨⟨_, _, rfl, Int.emod_nonneg _ (by decide), Int.emod_lt_of_pos _ (by decide)⟩, e2.trans e3⟩
    · rintro σ' H' ⟨⟨m, _, rfl, m0, m1⟩, e2⟩
      refine ⟨_, rfl, _, rfl, by show 4 ≤ sizeLine; decide, fun r hr => k r _ (fresh_back e2 hr) (e2.trans (Ex.new hr)) ⟨0, m, 0, upd_same, by decide, m0, m1, by decide⟩⟩
theorem ok__law_drawn (T : Txt K mg Z) : FnOk P w K mg base CX0 1 Z.f__law_drawn Z.d__law_drawn p__law_drawn (sp_drawn K) := by
  refine T.F__law_drawn.ok sc__law_drawn (fun vs H Q E h => ?_) (fun cdv Ar outer s H vs Q E hr h => ?_)
  · obtain ⟨a, l, cells, count, rfl, _⟩ := h
    rfl
  · obtain ⟨a, l, cells, count, rfl, p0, p1, hs, hS, k⟩ := h
    obtain ⟨pos, m, rest, h1, q0, m0, m1, r0⟩ := id hs
    have ix0 : ∀ {σ : L2.St} {G : Hp} {te : TE} {p' m' r' : Int}, Ev te σ G (.ref a) → G a = some (.lst [.ref l, .int p', .int m', .int r']) → Ev (tOp (rIxL K) te (tC (.int 0))) σ G (.ref l) := fun he hg => ev_ixL he (sq_of hg) ev_c rfl
    have ix1 : ∀ {σ : L2.St} {G : Hp} {te : TE} {p' m' r' : Int}, Ev te σ G (.ref a) → G a = some (.lst [.ref l, .int p', .int m', .int r']) → Ev (tOp (rIxL K) te (tC (.int 1))) σ G (.int p') := fun he hg => ev_ixL he (sq_of hg) ev_c rfl
    have ix2 : ∀ {σ : L2.St} {G : Hp} {te : TE} {p' m' r' : Int}, Ev te σ G (.ref a) → G a = some (.lst [.ref l, .int p', .int m', .int r']) → Ev (tOp (rIxL K) te (tC (.int 2))) σ G (.int m') := fun he hg => ev_ixL he (sq_of hg) ev_c rfl
    have ix3 : ∀ {σ : L2.St} {G : Hp} {te : TE} {p' m' r' : Int}, Ev te σ G (.ref a) → G a = some (.lst [.ref l, .int p', .int m', .int r']) → Ev (tOp (rIxL K) te (tC (.int 3))) σ G (.int r') := fun he hg => ev_ixL he (sq_of hg) ev_c rfl
    have p10 : (10 : Int) ^ (18 : Int).toNat = 1000000000000000000 := by decide
    have hlen : (((cells.map V.int).length : Nat) : Int) = (cells.length : Int) := by rw [List.length_map]
    refine ⟨_, (pss_cons (ps_if (pt_cmpR op_gt (pe_ix (r := rIxL K) ix_list (pv 0) pe_int (fun _ _ => rfl)) pe_int (nomark _)) (pss_cons (ps_set (i := 2) sc__law_drawn.nd rfl (Or.inl rfl) (pe_op op_mod (pe_ix (r := rIxL K) ix_list (pv 0) pe_int (fun _ _ => rfl)) (pv 1)))
      (pss_cons (ps_asg (pe_op op_fdivW (pe_ix (r := rIxL K) ix_list (pv 0) pe_int (fun _ _ => rfl)) (pv 1)) (pg_sub (pv 0) pe_int set_list))
      (pss_one (ps_ret (pv 2))))) pss_nil)
      (pss_cons (ps_asg (pe_op op_add (pe_ix (r := rIxL K) ix_list (pv 0) pe_int (fun _ _ => rfl)) pe_int) (pg_sub (pv 0) pe_int set_list))
      (pss_cons (ps_if (pt_cmpR op_le (pe_ix (r := rIxL K) ix_list (pv 0) pe_int (fun _ _ => rfl)) (pe_callB (r := rLenS K) (call_len_seq) (by rfl) T.b_len boot_len (pa_cons (pe_ix (r := rIxL K) ix_list (pv 0) pe_int (fun _ _ => rfl)) pa_nil)) (nomark _)) (pss_cons (ps_set (i := 3) sc__law_drawn.nd rfl (Or.inl rfl) (pe_ix (r := rIxL K) ix_list (pe_ix (r := rIxL K) ix_list (pv 0) pe_int (fun _ _ => rfl)) (pe_op op_sub (pe_ix (r := rIxL K) ix_list (pv 0) pe_int (fun _ _ => rfl)) pe_int) (fun _ _ => rfl)))
      (pss_cons (ps_asg (pe_ifExp (pt_cmpR op_ge (pv 3) (pe_op op_pow pe_int pe_int) (nomark _)) (pe_op op_fdivW (pv 3) (pv 1)) pe_int) (pg_sub (pv 0) pe_int set_list))
      (pss_one (ps_ret (pe_op op_mod (pv 3) (pv 1)))))) pss_nil)
      (pss_cons (ps_asg (pe_op op_mod (pe_op op_add (pe_op op_mul (pe_ix (r := rIxL K) ix_list (pv 0) pe_int (fun _ _ => rfl)) pe_int) pe_int) pe_int) (pg_sub (pv 0) pe_int set_list))
      (pss_one (ps_ret (pe_op op_mod (pe_op op_fdivW (pe_ix (r := rIxL K) ix_list (pv 0) pe_int (fun _ _ => rfl)) pe_int) (pv 1)))))))), ?_⟩
    refine q_when (b := decide ((0 : Int) < rest)) (et_test (ev_is (ev_op (ix3 (ev_var rfl) h1) ev_c rv_I0) rfl)) (fun hb H1 e1 => ?_) (fun hb H1 e1 => ?_)
    · have a1 := e1 _ _ h1
      refine q_asg (v := .int (rest % count)) (ev_op (ix3 (ev_var rfl) a1) (ev_var rfl) (rv_I p0)) fun H2 e2 => ?_
      have a2 := e2 _ _ a1
      refine q_setL (j := 3) (v := .int (rest / count)) a2 (ev_op (ix3 (ev_var rfl) a2) (ev_var rfl) (rv_I (wide_div (b := 60) p0 (by omega) (by decide) (by decide)))) (ev_var rfl) ev_c (by show 3 < 4; decide) fun H3 e3 => ?_
      have d1 : (upd H3 a (.lst (([.ref l, .int pos, .int m, .int rest] : List V).set 3 (.int (rest / count))))) a = some (.lst [.ref l, .int pos, .int m, .int (rest / count)]) := upd_same
      have q3 : HS (upd H3 a (.lst (([.ref l, .int pos, .int m, .int rest] : List V).set 3 (.int (rest / count))))) a l := ⟨_, _, _, d1, q0, m0, m1, Int.ediv_nonneg r0 (by omega)⟩
      refine s_ret (ev_var rfl) fun H4 e4 => ?_
      exact k _ _ (Int.emod_nonneg _ (by omega)) (Int.emod_lt_of_pos _ p0) (((Dr.of hs ((e1.trans e2).trans e3)).trans (Dr.upd rfl q3)).trans (Dr.of q3 e4))
    · have a1 := e1 _ _ h1
      refine q_setL (j := 1) (v := .int (pos + 1)) a1 (ev_op (ix1 (ev_var rfl) a1) ev_c rv_I0) (ev_var rfl) ev_c (by show 1 < 4; decide) fun H2 e2 => ?_
      have d1 : (upd H2 a (.lst (([.ref l, .int pos, .int m, .int rest] : List V).set 1 (.int (pos + 1))))) a = some (.lst [.ref l, .int (pos + 1), .int m, .int rest]) := upd_same
      have q3 : HS (upd H2 a (.lst (([.ref l, .int pos, .int m, .int rest] : List V).set 1 (.int (pos + 1))))) a l := ⟨_, _, _, d1, by omega, m0, m1, r0⟩
      have D3 := (Dr.of hs (e1.trans e2)).trans (Dr.upd rfl q3)
      generalize upd H2 a (.lst (([.ref l, .int pos, .int m, .int rest] : List V).set 1 (.int (pos + 1)))) = S3 at d1 q3 D3 ⊢
      have hS3 : SqL K S3 l (cells.map V.int) := ex_l (D3.ex.trans wn_ex) hS
      refine q_when (b := decide (pos + 1 ≤ (cells.length : Int))) (et_test (ev_is (ev_op (ix1 (ev_var rfl) d1) (Ev.int_eq (ev_len (ix0 (ev_var rfl) d1) hS3) hlen) rv_I0) rfl)) (fun hb2 H4 e4 => ?_) (fun hb2 H4 e4 => ?_)
      · have hp : pos + 1 ≤ (cells.length : Int) := by simpa using hb2
        have d4 := e4 _ _ d1
        refine q_asg (v := .int (cells.getD pos.toNat 0)) (ev_ixL (ix0 (ev_var rfl) d4) (ex_l e4 hS3) (Ev.int_eq (i := pos + 1 - 1) (ev_op (ix1 (ev_var rfl) d4) ev_c rv_I0) (by omega)) (atI_mapI q0 (by omega))) fun H5 e5 => ?_
        generalize cells.getD pos.toNat 0 = cell
        have d5 := e5 _ _ d4
        refine q_setL (j := 3) (v := .int (if (1000000000000000000 : Int) ≤ cell then cell / count else 0)) d5 ?_ (ev_var rfl) ev_c (by show 3 < 4; decide) fun H6 e6 => ?_
        · by_cases hc : (1000000000000000000 : Int) ≤ cell
          · rw [if_pos hc]
            exact ev_if (b := true) (et_is (et_test (ev_op (ev_var rfl) (Ev.int_eq (ev_op ev_c ev_c (rv_I ⟨by decide, by decide, by decide⟩)) p10) rv_I0)) (by simpa using hc)) (fun _ => ev_op (ev_var rfl) (ev_var rfl) (rv_I (wide_div (b := 60) p0 (by omega) (by decide) (by decide)))) (fun z => nomatch z)
          · rw [if_neg hc]
            exact ev_if (b := false) (et_is (et_test (ev_op (ev_var rfl) (Ev.int_eq (ev_op ev_c ev_c (rv_I ⟨by decide, by decide, by decide⟩)) p10) rv_I0)) (by simpa using hc)) (fun z => nomatch z) (fun _ => ev_c)
        have r6 : 0 ≤ (if (1000000000000000000 : Int) ≤ cell then cell / count else 0) := by
          split
          · exact Int.ediv_nonneg (by omega) (by omega)
          · decide
        generalize (if (1000000000000000000 : Int) ≤ cell then cell / count else 0) = rest' at r6 ⊢
        have d6 : (upd H6 a (.lst (([.ref l, .int (pos + 1), .int m, .int rest] : List V).set 3 (.int rest')))) a = some (.lst [.ref l, .int (pos + 1), .int m, .int rest']) := upd_same
        have q6 : HS (upd H6 a (.lst (([.ref l, .int (pos + 1), .int m, .int rest] : List V).set 3 (.int rest')))) a l := ⟨_, _, _, d6, by omega, m0, m1, r6⟩
        refine s_ret (ev_op (ev_var rfl) (ev_var rfl) (rv_I p0)) fun H7 e7 => ?_
        exact k _ _ (Int.emod_nonneg _ (by omega)) (Int.emod_lt_of_pos _ p0) (((D3.trans (Dr.of q3 ((e4.trans e5).trans e6))).trans (Dr.upd rfl q6)).trans (Dr.of q6 e7))
      · have d4 := e4 _ _ d1
        have n0 : 0 ≤ (m * 48271 + 11) % 2147483647 := Int.emod_nonneg _ (by omega)
        have n1 : (m * 48271 + 11) % 2147483647 < 2147483647 := Int.emod_lt_of_pos _ (by omega)
        refine q_setL (j := 2) (v := .int ((m * 48271 + 11) % 2147483647)) d4 (ev_op (ev_op (ev_op (ix2 (ev_var rfl) d4) ev_c (rv_I (wide_ok (by decide)))) ev_c rv_I0) ev_c (rv_I (by show (0 : Int) < 2147483647; decide))) (ev_var rfl) ev_c (by show 2 < 4; decide) fun H6 e6 => ?_
        generalize (m * 48271 + 11) % 2147483647 = m' at n0 n1 ⊢
        have d6 : (upd H6 a (.lst (([.ref l, .int (pos + 1), .int m, .int rest] : List V).set 2 (.int m')))) a = some (.lst [.ref l, .int (pos + 1), .int m', .int rest]) := upd_same
        have q6 : HS (upd H6 a (.lst (([.ref l, .int (pos + 1), .int m, .int rest] : List V).set 2 (.int m')))) a l := ⟨_, _, _, d6, by omega, n0, n1, r0⟩
        refine s_ret (ev_op (ev_op (ix2 (ev_var rfl) d6) ev_c (rv_I (wide_div (b := 3) (by decide) (by decide) (by decide) (by decide)))) (ev_var rfl) (rv_I p0)) fun H7 e7 => ?_
        exact k _ _ (Int.emod_nonneg _ (by omega)) (Int.emod_lt_of_pos _ p0) (((D3.trans (Dr.of q3 (e4.trans e6))).trans (Dr.upd rfl q6)).trans (Dr.of q6 e7))
end Sw
namespace Sw
open PySem PySem.Spec PyProof.Rows L2 Evl
local macro_rules | `(tactic| walk_at "ev") => `(tactic| first
  | exact ev_c
  | exact ev_var rfl
  | ((with_reducible show Ev (tCB rMax2 _) _ _ _); exact ev_maxi (by walk_at "ev") (by walk_at "ev"))
  | ((with_reducible show Ev (tCB rMn _) _ _ _); exact ev_min2 (by walk_at "ev") (by walk_at "ev"))
  | ((with_reducible show Ev (tUn _ _) _ _ _); exact ev_un (by walk_at "ev") ru_neg)
  | ((with_reducible show Ev (tFld _ _ _) _ _ _); exact ev_fldK (by walk_at "ev") (by assumption))
  | ((with_reducible show Ev (tOp (rI0 _) _ _) _ _ _); exact ev_op (by walk_at "ev") (by walk_at "ev") rv_I0)
  | ((with_reducible show Ev (tOp rEq _ _) _ _ _); exact ev_op (by walk_at "ev") (by walk_at "ev") (rv_eq rfl))
  | ((with_reducible show Ev (tOp rNe _ _) _ _ _); exact ev_op (by walk_at "ev") (by walk_at "ev") (rv_ne rfl)))

/-! ### evaluating while cells are drawn -/
def EvX (te : TE) (σ : L2.St) (H : Hp) (h l : Addr) (P : V → Hp → Prop) : Prop := ∀ H1, Dr h l H H1 → ∀ Q : VK, (∀ v H2, Dr h l H1 H2 → P v (wn H2 (hl h l)) → Q v H2) → te σ H1 Q
def EvI (te : TE) (σ : L2.St) (H : Hp) (h l : Addr) (A : Int → Prop) : Prop := EvX te σ H h l fun v _ => ∃ i, v = .int i ∧ A i
def EvXT (t : TT) (σ : L2.St) (H : Hp) (h l : Addr) : Prop := ∀ H1, Dr h l H H1 → ∀ Q : Bool → Hp → Prop, (∀ b H2, Dr h l H1 H2 → Q b H2) → t σ H1 Q
/-- a list, a tuple of numbers -/
def LI (A : List Int → Prop) : V → Hp → Prop := fun v G => ∃ p ns, v = .ref p ∧ G p = some (.lst (ns.map V.int)) ∧ A ns
def TI' (A : List Int → Prop) : V → Hp → Prop := fun v G => ∃ p ns, v = .ref p ∧ G p = some (.tup (ns.map V.int)) ∧ A ns
section
variable {K : PySem.W.Frag} {σ : L2.St} {H H' : Hp} {ta tb tc te tx : TE} {x y z v : V} {a h l : Addr} {xs ys : List V} {A B C D : Int → Prop} {i j : Int}
theorem hl_kind {G : Hp} {p : Addr} {o : HO} (q : HS G h l) (hp : G p = some o) (ho : ∀ ys, o ≠ .lst ys) : ¬ hl h l p := by
  obtain ⟨_, _, _, h1, _⟩ := q
  rintro rfl
  rw [h1] at hp; exact ho _ (Option.some.inj hp).symm
theorem hl_new {G G' : Hp} {p : Addr} (q : HS G h l) (hp : G p = none) : ¬ hl h l p := fun z => q.kn p z hp
theorem x_ev (hv : Ev te σ (wn H (hl h l)) v) : EvX te σ H h l (fun u _ => u = v) := fun H1 d Q q => hv H1 (d.ex.trans wn_ex) Q fun H2 e2 => q v H2 (Dr.of d.hs e2) rfl
theorem xi_ev (hv : Ev te σ (wn H (hl h l)) (.int i)) (ha : A i) : EvI te σ H h l A := fun H1 d Q q => hv H1 (d.ex.trans wn_ex) Q fun H2 e2 => q _ H2 (Dr.of d.hs e2) ⟨i, rfl, ha⟩
theorem x_evU (hv : EvU te σ (wn H (hl h l)) xs) : EvX te σ H h l (fun u G => ∃ p, u = .ref p ∧ G p = some (.tup xs)) := fun H1 d Q q =>
  hv H1 (d.ex.trans wn_ex) Q fun p H2 hp e2 h2 => q _ H2 (Dr.of d.hs e2) ⟨p, rfl, by rw [wn_ni (hl_new (G' := H2) d.hs hp)]; exact h2⟩
theorem x_evL (hv : EvL te σ (wn H (hl h l)) xs) : EvX te σ H h l (fun u G => ∃ p, u = .ref p ∧ G p = some (.lst xs)) := fun H1 d Q q =>
  hv H1 (d.ex.trans wn_ex) Q fun p H2 hp e2 h2 => q _ H2 (Dr.of d.hs e2) ⟨p, rfl, by rw [wn_ni (hl_new (G' := H2) d.hs hp)]; exact h2⟩
theorem x_evW (hv : EvW K te σ (wn H (hl h l)) xs) : EvX te σ H h l (fun u G => ∃ p, u = .ref p ∧ SqT K G p xs) := fun H1 d Q q =>
  hv H1 (d.ex.trans wn_ex) Q fun p H2 e2 h2 => q _ H2 (Dr.of d.hs e2) ⟨p, rfl, by
    have q2 := d.hs.mono e2
    rcases h2 with (z | ⟨u, z⟩) | z
    · exact .inl (.inl (by rw [wn_ni (hl_kind q2 z (fun _ q => nomatch q))]; exact z))
    · exact .inl (.inr ⟨u, by rw [wn_ni (hl_kind q2 z (fun _ q => nomatch q))]; exact z⟩)
    · exact .inr z⟩
theorem x_evR {Pr : Addr → Hp → Prop} (hv : EvR te σ (wn H (hl h l)) (hl h l) Pr) : EvX te σ H h l (fun u G => ∃ p, u = .ref p ∧ Pr p G) := fun H1 d Q q =>
  hv H1 (d.ex.trans wn_ex) d.hs.kn Q fun p H2 _ e2 hP => q _ H2 (Dr.of d.hs e2) ⟨p, rfl, hP⟩
theorem EvX.imp {P P' : V → Hp → Prop} (hv : EvX te σ H h l P) (f : ∀ v G, P v G → P' v G) : EvX te σ H h l P' := fun H1 d Q q => hv H1 d Q fun v H2 d2 p => q v H2 d2 (f _ _ p)
theorem EvX.from {P : V → Hp → Prop} (d : Dr h l H H') (hv : EvX te σ H h l P) : EvX te σ H' h l P := fun H1 d1 Q q => hv H1 (d.trans d1) Q q
theorem EvI.imp (hv : EvI te σ H h l A) (f : ∀ i, A i → B i) : EvI te σ H h l B := fun H1 d Q q => hv H1 d Q fun v H2 d2 ⟨i, e, p⟩ => q v H2 d2 ⟨i, e, f i p⟩
theorem xi_op0 {g : Int → Int → Int} (ha : EvI ta σ H h l A) (hb : EvI tb σ H h l B) (hc : ∀ i j, A i → B j → D (g i j)) : EvI (tOp (rI0 fun i j => .int (g i j)) ta tb) σ H h l D := fun H1 d Q q =>
  ha H1 d _ fun _ H2 d2 ⟨i, e, hi⟩ => hb H2 (d.trans d2) _ fun _ H3 d3 ⟨j, e', hj⟩ => ⟨i, j, e, e', q _ H3 (d2.trans d3) ⟨_, rfl, hc i j hi hj⟩⟩
theorem xi_op {R : Int → Int → Prop} {g : Int → Int → Int} (ha : EvI ta σ H h l A) (hb : EvI tb σ H h l B) (hc : ∀ i j, A i → B j → R i j ∧ D (g i j)) : EvI (tOp (rI R fun i j => .int (g i j)) ta tb) σ H h l D := fun H1 d Q q =>
  ha H1 d _ fun _ H2 d2 ⟨i, e, hi⟩ => hb H2 (d.trans d2) _ fun _ H3 d3 ⟨j, e', hj⟩ => ⟨i, j, e, e', (hc i j hi hj).1, q _ H3 (d2.trans d3) ⟨_, rfl, (hc i j hi hj).2⟩⟩
theorem xi_drawn {E : XK} {cells : List Int} (hS : SqL K (wn H (hl h l)) l (cells.map V.int)) (ha : ∀ G, Ev ta σ G (.ref h)) (hb : EvI tb σ H h l A) (hA : ∀ i, A i → 0 < i ∧ i ≤ 1000000000000000000) : EvI (tCall (sp_drawn K) [] E (tCons ta (tCons tb tNil))) σ H h l (fun v => 0 ≤ v ∧ ∃ i, A i ∧ v < i) := fun H1 d Q q =>
  ha H1 H1 (Ex.refl _) _ fun H2 e2 => hb H2 (d.trans (Dr.of d.hs e2)) _ fun _ H3 d3 ⟨i, e, hi⟩ => by
    subst e
    exact ⟨h, l, cells, i, rfl, (hA i hi).1, (hA i hi).2, d3.hs, ex_l (((d.trans (Dr.of d.hs e2)).trans d3).ex) hS, fun v H4 v0 v1 d4 => q _ H4 (((Dr.of d.hs e2).trans d3).trans d4) ⟨v, rfl, v0, i, hi, v1⟩⟩
theorem xb_cmp {g : Int → Int → Bool} (ha : EvI ta σ H h l A) (hb : EvI tb σ H h l B) : EvX (tOp (rI0 fun i j => .bl (g i j)) ta tb) σ H h l (fun v _ => ∃ k, v = .bl k) := fun H1 d Q q =>
  ha H1 d _ fun _ H2 d2 ⟨i, e, _⟩ => hb H2 (d.trans d2) _ fun _ H3 d3 ⟨j, e', _⟩ => ⟨i, j, e, e', q _ H3 (d2.trans d3) ⟨_, rfl⟩⟩
theorem xb_eq (ha : EvI ta σ H h l A) (hb : EvI tb σ H h l B) : EvX (tOp rEq ta tb) σ H h l (fun v _ => ∃ k, v = .bl k) := fun H1 d Q q =>
  ha H1 d _ fun _ H2 d2 ⟨i, e, _⟩ => hb H2 (d.trans d2) _ fun _ H3 d3 ⟨j, e', _⟩ => by
    subst e e'
    exact ⟨rfl, q _ H3 (d2.trans d3) ⟨_, rfl⟩⟩
def rInt1 : List V → Hp → VK → Prop := fun xs H Q => (∃ i, xs = [.int i] ∧ Q (.int i) H) ∨ ∃ k, xs = [.bl k] ∧ Q (.int (if k then 1 else 0)) H
theorem xi_intb (ha : EvX ta σ H h l (fun v _ => ∃ k, v = .bl k)) : EvI (tCB rInt1 (tCons ta tNil)) σ H h l (fun i => i = 0 ∨ i = 1) := fun H1 d Q q =>
  ha H1 d _ fun _ H2 d2 ⟨k, e⟩ => .inr ⟨k, by rw [e], q _ H2 d2 ⟨_, rfl, by cases k <;> simp⟩⟩
theorem xt_test (ha : EvX ta σ H h l (fun v _ => ∃ k, v = .bl k)) : EvXT (tTest ta) σ H h l := fun H1 d Q q => ha H1 d _ fun _ H2 d2 ⟨k, e⟩ => ⟨k, e, q k H2 d2⟩
/-- [a, b][draw] -/
theorem xi_pick {n : Nat} {ns : List Int} (ha : EvL ta σ (wn H (hl h l)) (ns.map V.int)) (hb : EvI tb σ H h l B) (hn : ∀ i, B i → 0 ≤ i ∧ i < ns.length) : EvI (tOp (rIxL K) ta tb) σ H h l (fun i => i ∈ ns) := fun H1 d Q q =>
  x_evL ha H1 d _ fun _ H2 d2 ⟨p, e, hp⟩ => hb H2 (d.trans d2) _ fun _ H3 d3 ⟨j, e', hj⟩ => by
    subst e e'
    obtain ⟨j0, j1⟩ := hn j hj
    refine ⟨p, ns.map V.int, j, .int (ns.getD j.toNat 0), rfl, rfl, sq_of (wn_ex _ _ (d3.ex _ _ hp)), atI_mapI j0 j1, q _ H3 (d2.trans d3) ⟨_, rfl, ?_⟩⟩
    have hlt : j.toNat < ns.length := by omega
    have e : ns.getD j.toNat 0 = ns[j.toNat] := by simp [List.getD, hlt]
    rw [e]; exact List.getElem_mem hlt
/-- [e for i in range(n)], e drawn -/
theorem x_lcR {ta : TA} {jj : Nat} {vs : List Nat} {n : Int} (hn : EvA ta σ (wn H (hl h l)) [.int n]) (hz : 0 ≤ n ∧ n ≤ 40000) (hw : ∀ x, wipe ((wipe σ vs).set jj (some x)) vs = wipe σ vs)
    (he : ∀ (i : Nat) H1, Dr h l H H1 → (i : Int) < n → EvI te ((wipe σ vs).set jj (some (.int (i : Int)))) H1 h l A) : EvX (tLc (iRng1 ta) (gName jj) tYes te vs) σ H h l (LI fun ns => (ns.length : Int) = n ∧ ∀ x ∈ ns, A x) := fun H0 d0 Q q =>
  hn H0 (d0.ex.trans wn_ex) _ fun H1 e1 => ⟨n, rfl, by omega, by omega, fun Dl hD => by
    have d1 := Dr.of d0.hs e1
    have nD : ¬ hl h l Dl := hl_new (G' := H1) d1.hs hD
    have dn : Dr h l H1 (upd H1 Dl (.lst [])) := Dr.of d1.hs (Ex.new hD)
    refine lc_range (lo := 0) (n := n.toNat) (fun i H' => Dr h l H1 H' ∧ ∃ ns : List Int, H' Dl = some (.lst (ns.map V.int)) ∧ ns.length = i ∧ ∀ x ∈ ns, A x) ⟨dn, [], upd_same, rfl, by simp⟩ (fun i H' hi p => ?_) (fun H' p => ?_)
    · obtain ⟨d2, ns, h2, hl2, hA⟩ := p
      have e0 : (0 : Int) + (i : Int) = (i : Int) := Int.zero_add _
      show wipe ((wipe σ vs).set jj (some (.int ((0 : Int) + (i : Int))))) vs = wipe σ vs ∧ _
      refine ⟨hw _, ?_⟩
      show te ((wipe σ vs).set jj (some (.int ((0 : Int) + (i : Int))))) H' _
      rw [e0]
      refine he i H' ((d0.trans d1).trans d2) (by omega) H' (Dr.refl d2.hs) _ fun v H3 d3 hv => ?_
      obtain ⟨k, rfl, hk⟩ := hv
      have h3 : H3 Dl = some (.lst (ns.map V.int)) := wn_ex _ _ (d3.ex _ _ (by rw [wn_ni nD]; exact h2))
      have d5 : Dr h l H1 (upd H3 Dl (.lst (ns.map V.int ++ [.int k]))) := ⟨by
        obtain ⟨p0, m, r, a1, rr⟩ := d3.hs
        exact ⟨p0, m, r, by rw [upd_ne (fun z => nD z.symm)]; exact a1, rr⟩, fun b u hb => by
        obtain ⟨q1, q2⟩ := wn_some hb
        have z := wn_ex _ _ ((d2.trans d3).ex b u hb)
        rw [wn_ni q1, upd_ne (ne_of_none q2 hD)]
        exact z⟩
      refine ⟨_, h3, by rw [List.length_map]; exact sz_lt (by omega), d5, ns ++ [k], by rw [upd_same, List.map_append]; rfl, by rw [List.length_append, hl2]; rfl, fun x hx => ?_⟩
      rcases List.mem_append.mp hx with z | z
      · exact hA x z
      · rw [List.mem_singleton.mp z]; exact hk
    · obtain ⟨d2, ns, h2, hl2, hA⟩ := p
      exact q _ H' (d1.trans d2) ⟨Dl, ns, rfl, by rw [wn_ni nD]; exact h2, by omega, hA⟩⟩
/-- statements whose values are drawn -/
theorem x_ret {P : V → Hp → Prop} {D : Ends} (hs : HS H h l) (hx : EvX te σ H h l P) (k : ∀ v H2, Dr h l H H2 → P v (wn H2 (hl h l)) → D.rt v H2) : tRet te D σ H := hx H (Dr.refl hs) _ k
theorem x_asgG {P : V → Hp → Prop} {D : Ends} {tz : TS} {g : TG} (hs : HS H h l) (hx : EvX te σ H h l P) (k : ∀ v H2, Dr h l H H2 → P v (wn H2 (hl h l)) → g v σ H2 (tz D)) : tSeq (tAsg te g) tz D σ H := hx H (Dr.refl hs) _ k
theorem x_asg {P : V → Hp → Prop} {D : Ends} {tz : TS} {n : Nat} (hs : HS H h l) (hx : EvX te σ H h l P) (k : ∀ v H2, Dr h l H H2 → P v (wn H2 (hl h l)) → tz D (σ.set n (some v)) H2) : tSeq (tAsg te (gName n)) tz D σ H := hx H (Dr.refl hs) _ k
theorem x_asgI {D : Ends} {tz : TS} {n : Nat} (hs : HS H h l) (hx : EvI te σ H h l A) (k : ∀ i H2, Dr h l H H2 → A i → tz D (σ.set n (some (.int i))) H2) : tSeq (tAsg te (gName n)) tz D σ H := hx H (Dr.refl hs) _ fun _ H2 d ⟨i, e, p⟩ => by subst e; exact k i H2 d p
theorem x_par {P Q : V → Hp → Prop} {D : Ends} {tz : TS} {m n : Nat} (hs : HS H h l) (hx : EvX ta σ H h l P) (hy : EvX tb σ H h l Q) (k : ∀ v w H1 H2, Dr h l H H1 → Dr h l H1 H2 → P v (wn H1 (hl h l)) → Q w (wn H2 (hl h l)) → tz D ((σ.set m (some v)).set n (some w)) H2) : tSeq (tPar m n (tCons ta (tCons tb tNil))) tz D σ H :=
  hx H (Dr.refl hs) _ fun v H1 d1 p1 => hy H1 d1 _ fun w H2 d2 p2 => ⟨v, w, rfl, k v w H1 H2 d1 d2 p1 p2⟩
theorem x_if {D : Ends} {tt : TT} {tu tw tz : TS} (hs : HS H h l) (hx : EvXT tt σ H h l) (h1 : ∀ H2, Dr h l H H2 → tu { D with nx := tz D } σ H2) (h2 : ∀ H2, Dr h l H H2 → tw { D with nx := tz D } σ H2) : tSeq (tIfS tt tu tw) tz D σ H := hx H (Dr.refl hs) _ fun b H2 d => by
  cases b with
  | true => exact h1 H2 d
  | false => exact h2 H2 d
theorem x_ifK {M : L2.St → Hp → Prop} {D : Ends} {tt : TT} {tu tw tz : TS} (hs : HS H h l) (hx : EvXT tt σ H h l) (fin : ∀ σ' H', M σ' H' → tz D σ' H') (h1 : ∀ H2, Dr h l H H2 → (∀ σ' H', M σ' H' → tz D σ' H') → tu { D with nx := tz D } σ H2)
    (h2 : ∀ H2, Dr h l H H2 → (∀ σ' H', M σ' H' → tz D σ' H') → tw { D with nx := tz D } σ H2) : tSeq (tIfS tt tu tw) tz D σ H := x_if hs hx (fun H2 d => h1 H2 d fin) (fun H2 d => h2 H2 d fin)
/-- a call all of whose arguments are drawn: the first ones plain -/
theorem x_call3 {sp : Sp} {E : XK} {P : V → Hp → Prop} {u : V} (ha : ∀ G, Ev ta σ G u) (hb : EvI tb σ H h l A) (hc : EvI tc σ H h l B) (hp : ∀ i j H1, A i → B j → Dr h l H H1 → ∀ Q : VK, (∀ v H2, Dr h l H1 H2 → P v (wn H2 (hl h l)) → Q v H2) → sp [u, .int i, .int j] H1 Q E) :
    EvX (tCall sp [] E (tCons ta (tCons tb (tCons tc tNil)))) σ H h l P := fun H1 d Q q =>
  ha H1 H1 (Ex.refl _) _ fun H2 e2 => hb H2 (d.trans (Dr.of d.hs e2)) _ fun _ H3 d3 ⟨i, e, hi⟩ => hc H3 ((d.trans (Dr.of d.hs e2)).trans d3) _ fun _ H4 d4 ⟨j, e', hj⟩ => by
    subst e e'
    exact hp i j H4 hi hj (((d.trans (Dr.of d.hs e2)).trans d3).trans d4) Q fun v H5 d5 p => q v H5 ((((Dr.of d.hs e2)).trans d3).trans (d4.trans d5)) p
theorem x_tupL {A : List Int → Prop} (ha : EvX ta σ H h l (LI A)) : EvX (tCB (rTupS K) (tCons ta tNil)) σ H h l (TI' A) := fun H1 d Q q =>
  ha H1 d _ fun _ H2 d2 ⟨p, ns, e, hp, hA⟩ => ⟨p, ns.map V.int, by rw [e], .inl ⟨sq_of (wn_ex _ _ hp), fun t ht => by
    have d3 := Dr.of d2.hs (Ex.new (o := .tup (ns.map V.int)) ht)
    exact q _ _ (d2.trans d3) ⟨t, ns, rfl, by rw [wn_ni (hl_new (G' := H2) d2.hs ht)]; exact upd_same, hA⟩⟩⟩
theorem ew_cat (ha : EvW K ta σ H xs) (hb : EvW K tb σ H ys) (hz : xs.length + ys.length ≤ 100000) : EvW K (tOp (rCatA K) ta tb) σ H (xs ++ ys) := fun H1 e Q q =>
  ha H1 e _ fun p H2 e2 h2 => hb H2 (e.trans e2) _ fun r H3 e3 h3 => ⟨p, r, xs, ys, rfl, rfl, ex_t e3 h2, h3, sz_of hz,
    fun z => q r H3 (e2.trans e3) (by rw [z]; exact h3), fun _ z => q p H3 (e2.trans e3) (by rw [z, List.append_nil]; exact ex_t e3 h2),
    fun _ _ t ht => q t _ ((e2.trans e3).trans (Ex.new ht)) (st_of upd_same)⟩
theorem ew_drop {tl : TE} {k : Nat} (ha : EvW K te σ H xs) (hk : Ev tl σ H (.int (k : Int))) : EvW K (tSl (rSlA K) te (tPart tl) tNoPart) σ H (xs.drop k) := fun H1 e Q q =>
  ha H1 e _ fun p H2 e2 h2 => hk H2 (e.trans e2) _ fun H3 e3 => ⟨(k : Int), rfl, p, xs, rfl, ex_t e3 h2, fun w => by
      have hi : min k xs.length = 0 := by rw [← HT.sIx_nat xs.length 0 k]; exact w.1
      have t : xs.drop k = xs := by
        rcases Nat.eq_zero_or_pos k with z | z
        · rw [z]; rfl
        · have : xs.length = 0 := by omega
          rw [List.length_eq_zero_iff.mp this]; simp
      rw [t] at q
      exact q p H3 (e2.trans e3) (ex_t e3 h2), fun _ r hr => by
      refine q r _ ((e2.trans e3).trans (Ex.new hr)) (st_of ?_)
      rw [upd_same]
      unfold cutV
      rw [HT.sIx_none, HT.sIx_nat]
      congr 2
      by_cases hk : k ≤ xs.length
      · rw [Nat.min_eq_left hk, List.take_of_length_le (by simp)]
      · rw [Nat.min_eq_right (by omega)]
        simp [List.drop_eq_nil_of_le (Nat.le_of_not_le hk)]⟩
end
end Sw
namespace Sw
/-! ### rules: the mathematics -/
inductive RK where
  | fix (a : Int)
  | ref (g : Int)
  | sol (a m : Int)
def RK.bake : RK → Nat → Int → Int → Int
  | .fix a, _, _, _ => a
  | .ref g, _, st, _ => max 0 (g - st)
  | .sol a m, d, _, so => if d = 0 then a else max 0 (min 1000000000 (so + m))
structure RSt where
  st : Int
  so : Int
  rc : List Int
def dem (ds : List Int) (d : Nat) : Int := ds.getD (d % ds.length) 0
def rbak (rk : RK) (d : Nat) (s : RSt) : Int := rk.bake d s.st s.so
def rrec (rk : RK) (d : Nat) (s : RSt) : List Int := rbak rk d s :: s.rc.dropLast
def rsol (rk : RK) (ds : List Int) (d : Nat) (s : RSt) : Int := min (s.st + rbak rk d s) (dem ds d)
def rlef (rk : RK) (ds : List Int) (d : Nat) (s : RSt) : Int := s.st + rbak rk d s - rsol rk ds d s
def rnew (rk : RK) (ds : List Int) (d : Nat) (s : RSt) : Int := min (rlef rk ds d s) (rrec rk d s).dropLast.sum
def rst (rk : RK) (ds : List Int) (L : Nat) : Nat → RSt
  | 0 => ⟨0, 0, List.replicate L 0⟩
  | d + 1 => ⟨rnew rk ds d (rst rk ds L d), rsol rk ds d (rst rk ds L d), rrec rk d (rst rk ds L d)⟩
def rrow (rk : RK) (ds : List Int) (L d : Nat) : List Int :=
  [rbak rk d (rst rk ds L d), rsol rk ds d (rst rk ds L d), dem ds d - rsol rk ds d (rst rk ds L d), rlef rk ds d (rst rk ds L d) - rnew rk ds d (rst rk ds L d)]
def rrows (rk : RK) (ds : List Int) (L n : Nat) : List (List Int) := (List.range n).map (rrow rk ds L)
/-- the sums of a column -/
def rcol (rk : RK) (ds : List Int) (L n j : Nat) : Int := psum (fun d => (rrow rk ds L d).getD j 0) n
section
variable {rk : RK} {ds : List Int} {L d : Nat}
theorem rc_len (hL : 1 ≤ L) : (rst rk ds L d).rc.length = L := by
  induction d with
  | zero => simp [rst]
  | succ d ih =>
    show (rrec rk d (rst rk ds L d)).length = L
    unfold rrec
    rw [List.length_cons, List.length_dropLast, ih]
    omega
/-- the goods of a rule -/
def RK.ok : RK → Prop
  | .fix a => 0 ≤ a ∧ a ≤ 1000000000
  | .ref g => 0 ≤ g ∧ g ≤ 1000000000
  | .sol a m => 0 ≤ a ∧ a ≤ 1000000000 ∧ -1000000000 ≤ m ∧ m ≤ 1000000000
theorem bake_nn (h : rk.ok) (d : Nat) (st so : Int) : 0 ≤ rk.bake d st so := by
  cases rk with
  | fix a => exact h.1
  | ref g => show 0 ≤ max 0 _; omega
  | sol a m =>
    show 0 ≤ if d = 0 then a else max 0 _
    have := h.1
    by_cases z : d = 0
    · rw [if_pos z]; omega
    · rw [if_neg z]; omega
theorem sum_nn : ∀ {xs : List Int}, (∀ x ∈ xs, 0 ≤ x) → 0 ≤ xs.sum
  | [], _ => by simp
  | x :: xs, h => by
    have h1 := h x List.mem_cons_self
    have h2 := sum_nn fun y hy => h y (List.mem_cons_of_mem _ hy)
    simp only [List.sum_cons]; omega
theorem dem_nn (hd : ∀ x ∈ ds, 0 ≤ x ∧ x ≤ 1000000000) (d : Nat) : 0 ≤ dem ds d ∧ dem ds d ≤ 1000000000 := getD_mem0 hd
theorem rst_nn (h : rk.ok) (hd : ∀ x ∈ ds, 0 ≤ x ∧ x ≤ 1000000000) (d : Nat) : 0 ≤ (rst rk ds L d).st ∧ ∀ x ∈ (rst rk ds L d).rc, 0 ≤ x := by
  induction d with
  | zero =>
    refine ⟨Int.le_refl 0, fun x hx => ?_⟩
    have := List.eq_of_mem_replicate (show x ∈ List.replicate L (0 : Int) from hx)
    omega
  | succ d ih =>
    obtain ⟨h1, h2⟩ := ih
    have hb := bake_nn h d (rst rk ds L d).st (rst rk ds L d).so
    have hrec : ∀ x ∈ rrec rk d (rst rk ds L d), 0 ≤ x := fun x hx => by
      rcases List.mem_cons.mp hx with z | z
      · rw [z]; exact hb
      · exact h2 x ((List.dropLast_sublist _).mem z)
    refine ⟨?_, hrec⟩
    show 0 ≤ min (rlef rk ds d _) _
    have hs := sum_nn fun x hx => hrec x ((List.dropLast_sublist _).mem hx)
    have hl : 0 ≤ rlef rk ds d (rst rk ds L d) := by unfold rlef rsol; omega
    omega
/-- what comes in goes out or stays -/
theorem balance (n : Nat) : psum (fun d => (rrow rk ds L d).getD 0 0) n - psum (fun d => (rrow rk ds L d).getD 1 0) n - psum (fun d => (rrow rk ds L d).getD 3 0) n = (rst rk ds L n).st := by
  induction n with
  | zero => simp [psum, rst]
  | succ n ih =>
    show (psum _ n + (rrow rk ds L n).getD 0 0) - (psum _ n + (rrow rk ds L n).getD 1 0) - (psum _ n + (rrow rk ds L n).getD 3 0) = rnew rk ds n (rst rk ds L n)
    have e0 : (rrow rk ds L n).getD 0 0 = rbak rk n (rst rk ds L n) := rfl
    have e1 : (rrow rk ds L n).getD 1 0 = rsol rk ds n (rst rk ds L n) := rfl
    have e3 : (rrow rk ds L n).getD 3 0 = rlef rk ds n (rst rk ds L n) - rnew rk ds n (rst rk ds L n) := rfl
    have el : rlef rk ds n (rst rk ds L n) = (rst rk ds L n).st + rbak rk n (rst rk ds L n) - rsol rk ds n (rst rk ds L n) := rfl
    omega
theorem customers (n : Nat) : psum (fun d => (rrow rk ds L d).getD 1 0) n + psum (fun d => (rrow rk ds L d).getD 2 0) n = psum (dem ds) n := by
  induction n with
  | zero => simp [psum]
  | succ n ih =>
    show (psum _ n + (rrow rk ds L n).getD 1 0) + (psum _ n + (rrow rk ds L n).getD 2 0) = psum _ n + dem ds n
    have e1 : (rrow rk ds L n).getD 1 0 = rsol rk ds n (rst rk ds L n) := rfl
    have e2 : (rrow rk ds L n).getD 2 0 = dem ds n - rsol rk ds n (rst rk ds L n) := rfl
    omega
/-- a refill rule begins each day with its goal -/
theorem refill_le {g : Int} (hg : 0 ≤ g) (hd : ∀ x ∈ ds, 0 ≤ x ∧ x ≤ 1000000000) (d : Nat) : (rst (.ref g) ds L d).st ≤ g := by
  induction d with
  | zero => exact hg
  | succ d ih =>
    show min (rlef (.ref g) ds d _) _ ≤ g
    have := (dem_nn hd d).1
    have hb : rbak (.ref g) d (rst (.ref g) ds L d) = max 0 (g - (rst (.ref g) ds L d).st) := rfl
    unfold rlef rsol
    omega
theorem refill_day {g : Int} (hg : 0 ≤ g) (hd : ∀ x ∈ ds, 0 ≤ x ∧ x ≤ 1000000000) (d : Nat) : (rst (.ref g) ds L d).st + rbak (.ref g) d (rst (.ref g) ds L d) = g := by
  have := refill_le (L := L) hg hd d
  have hb : rbak (.ref g) d (rst (.ref g) ds L d) = max 0 (g - (rst (.ref g) ds L d).st) := rfl
  omega
theorem refill_miss {g : Int} (hg : 0 ≤ g) (hd : ∀ x ∈ ds, 0 ≤ x ∧ x ≤ 1000000000) (d : Nat) : (rrow (.ref g) ds L d).getD 2 0 = dem ds d - min g (dem ds d) := by
  show dem ds d - rsol (.ref g) ds d _ = _
  unfold rsol
  rw [refill_day hg hd]
theorem psum_le {f g : Nat → Int} (h : ∀ d, f d ≤ g d) : ∀ n, psum f n ≤ psum g n
  | 0 => Int.le_refl _
  | n + 1 => by
    have := psum_le h n
    have := h n
    show psum f n + f n ≤ psum g n + g n
    omega
theorem refill_more {g g' : Int} (hg : 0 ≤ g) (hgg : g ≤ g') (hd : ∀ x ∈ ds, 0 ≤ x ∧ x ≤ 1000000000) (n : Nat) : rcol (.ref g') ds L n 2 ≤ rcol (.ref g) ds L n 2 := by
  unfold rcol
  refine psum_le (fun d => ?_) n
  rw [refill_miss hg hd, refill_miss (by omega) hd]
  omega
end
end Sw
namespace Sw
open PySem PySem.Spec PyProof.Rows L2 Evl
local macro_rules | `(tactic| walk_at "ev") => `(tactic| first
  | exact ev_c
  | exact ev_var rfl
  | ((with_reducible show Ev (tCB rMax2 _) _ _ _); exact ev_maxi (by walk_at "ev") (by walk_at "ev"))
  | ((with_reducible show Ev (tCB rMn _) _ _ _); exact ev_min2 (by walk_at "ev") (by walk_at "ev"))
  | ((with_reducible show Ev (tUn _ _) _ _ _); exact ev_un (by walk_at "ev") ru_neg)
  | ((with_reducible show Ev (tFld _ _ _) _ _ _); exact ev_fldK (by walk_at "ev") (by assumption))
  | ((with_reducible show Ev (tOp (rI0 _) _ _) _ _ _); exact ev_op (by walk_at "ev") (by walk_at "ev") rv_I0)
  | ((with_reducible show Ev (tOp rEq _ _) _ _ _); exact ev_op (by walk_at "ev") (by walk_at "ev") (rv_eq rfl))
  | ((with_reducible show Ev (tOp rNe _ _) _ _ _); exact ev_op (by walk_at "ev") (by walk_at "ev") (rv_ne rfl)))

/-! ### rules: their objects -/
section
variable {K : PySem.W.Frag} {σ : L2.St} {H : Hp} {te ta tb : TE} {a : Addr} {xs : List V} {v : V}
theorem cutV_init (xs : List V) : cutV xs none (some (-1)) = xs.dropLast := by
  unfold cutV
  have e1 : HT.sIx xs.length 0 none = (0 : Nat) := HT.sIx_none _ _
  have e2 : HT.sIx xs.length xs.length (some (-1)) = xs.length - 1 := by
    show (if (-1 : Int) < 0 then ((-1 : Int) + (xs.length : Int)).toNat else min (-1 : Int).toNat xs.length) = _
    rw [if_pos (by decide)]
    omega
  rw [e1, e2, List.drop_zero, List.dropLast_eq_take]
  rfl
theorem el_init (h : Ev te σ H (.ref a)) (hx : SqL K H a xs) (hm : Ev tb σ H (.int (-1))) : EvL (tSl (rSlL K) te tNoPart (tPart tb)) σ H xs.dropLast := by
  rw [← cutV_init]
  exact el_sl h eo_none (eo_some hm) hx
theorem el_repR {n : Int} (ha : EvL ta σ H [v]) (hb : Ev tb σ H (.int n)) (h0 : 0 ≤ n) (h1 : n ≤ 1000) : EvL (tOp rRep ta tb) σ H (List.replicate n.toNat v) := fun H1 e Q k =>
  ha H1 e _ fun p H2 np e2 hp => hb H2 (e.trans e2) _ fun H3 e3 => ⟨p, n, [v], rfl, rfl, e3 _ _ hp, by omega, by omega, by simp only [List.length_cons, List.length_nil, sizeLine_eq]; omega, fun q hq => by
    have z : (List.replicate n.toNat [v]).flatten = List.replicate n.toNat v := by simp
    rw [z]
    exact k q _ (fresh_back (e2.trans e3) hq) ((e2.trans e3).trans (Ex.new hq)) upd_same⟩
end
def sp_part : Sp := fun vs H Q _ => ∃ (s : Str) (n lo : Int), vs = [.str s, .int n, .int lo] ∧ lo ≤ n ∧ n ≤ 1000000000 ∧ RetV .non H Q
theorem spv_part {H : Hp} {s : Str} {n lo : Int} (h1 : lo ≤ n) (h2 : n ≤ 1000000000) : SpV sp_part [.str s, .int n, .int lo] H .non := fun _ _ _ q _ => ⟨s, n, lo, rfl, h1, h2, q⟩
/-- the fields of a rule that is made -/
def ruleC (Z : Ad) : RK → Addr
  | .fix _ => Z.c_Rule
  | .ref _ => Z.c_RefillRule
  | .sol _ _ => Z.c_SoldRule
def ruleF : RK → List (Str × V)
  | .fix a => putF "_amount" (.int a) []
  | .ref g => putF "_goal" (.int g) []
  | .sol a m => putF "_more" (.int m) (putF "_amount" (.int a) [])
/-- a rule object -/
structure RuleR (Z : Ad) (H : Hp) (r dx : Addr) (rk : RK) : Prop where
  ins : H r = some (.ins (ruleC Z rk) dx (ruleF rk))
  own : H dx = some (.own r)
theorem RuleR.mono {Z : Ad} {H H' : Hp} {r dx : Addr} {rk : RK} (e : Ex H H') (h : RuleR Z H r dx rk) : RuleR Z H' r dx rk := ⟨e _ _ h.ins, e _ _ h.own⟩
/-- it is being made: self has no field yet -/
def sp_Rinit (Z : Ad) (kind : RK → Prop) (mk : List V → RK → Prop) : Sp := fun vs H Q _ => ∃ (x dx : Addr) (ws : List V) (rk : RK), vs = .ref x :: ws ∧ mk ws rk ∧ kind rk ∧ rk.ok ∧ H x = some (.ins (ruleC Z rk) dx []) ∧
  ∀ H', H' x = some (.ins (ruleC Z rk) dx (ruleF rk)) → (∀ b o, H b = some o → b ≠ x → H' b = some o) → Q .non H'
def isFix : RK → Prop | .fix _ => True | _ => False
def isRef : RK → Prop | .ref _ => True | _ => False
def isSol : RK → Prop | .sol _ _ => True | _ => False
def mkFix (ws : List V) (rk : RK) : Prop := ∃ a, ws = [.int a] ∧ rk = .fix a
def mkRef (ws : List V) (rk : RK) : Prop := ∃ g, ws = [.int g] ∧ rk = .ref g
def mkSol (ws : List V) (rk : RK) : Prop := ∃ a m, ws = [.int a, .int m] ∧ rk = .sol a m
/-- Rule.__init__, of a rule or of one that is derived from it -/
def sp_Rule (Z : Ad) : Sp := fun vs H Q _ => ∃ (x dx C : Addr) (a : Int), vs = [.ref x, .int a] ∧ (C = Z.c_Rule ∨ C = Z.c_SoldRule) ∧ 0 ≤ a ∧ a ≤ 1000000000 ∧ H x = some (.ins C dx []) ∧
  ∀ H', H' x = some (.ins C dx (putF "_amount" (.int a) [])) → (∀ b o, H b = some o → b ≠ x → H' b = some o) → Q .non H'
variable {P : Program} {w : World} {K : PySem.W.Frag} {mg : Str → Option Value} {base : Heap} {Z : Ad}
theorem ok_check_part (T : Txt K mg Z) : FnOk P w K mg base CX0 3 Z.f_check_part Z.d_check_part p_check_part sp_part := by
  refine T.F_check_part.ok sc_check_part (fun vs H Q E h => ?_) (fun cdv Ar outer s H vs Q E hr h => ?_)
  · obtain ⟨s, n, lo, rfl, _⟩ := h
    rfl
  · obtain ⟨s, n, lo, rfl, h1, h2, k⟩ := h
    refine ⟨_, (pss_one (ps_if (PW.pt (pw_or (pt_cmpR op_lt (pv 1) (pv 2) (nomark _)) (pw_or1 (pt_cmpR op_gt (pv 1) (pe_glob (v := .int 1000000000) (by rfl) T.g_MOST_LOAVES ⟨_, rfl⟩) (nomark _))))) (pss_one ps_no) pss_nil)), ?_⟩
    refine s_when (b := false) (et_is (et_or (et_test (by walk_at "ev")) fun _ => et_test (by walk_at "ev")) (by simp; omega)) (fun hb => nomatch hb) fun _ H1 e1 => k H1 e1
theorem ok_Rule___init__ (T : Txt K mg Z) : FnOk P w K mg base CX0 4 Z.f_Rule___init__ Z.d_Rule___init__ p_Rule___init__ (sp_Rule Z) := by
  refine T.F_Rule___init__.ok sc_Rule___init__ (fun vs H Q E h => ?_) (fun cdv Ar outer s H vs Q E hr h => ?_)
  · obtain ⟨x, dx, C, a, rfl, _⟩ := h
    rfl
  · obtain ⟨x, dx, C, a, rfl, hC, a0, a1, hx, k⟩ := h
    refine ⟨_, (pss_cons (ps_expr (pe_call (ok_check_part T) (hr.mono (by decide)) (by rfl) T.g_check_part T.F_check_part.kp T.b_check_part .nil pass0 (pa_cons pe_str (pa_cons (pv 1) (pa_cons pe_int pa_nil)))))
      (pss_one (ps_fld (pv 0) (pv 1) rfl))), ?_⟩
    refine q_drop (ev_call (ea_cons ev_c (ea_cons (ev_var rfl) (ea_cons ev_c ea_nil))) (spv_part a0 a1)) fun H1 e1 => ?_
    have go : ∀ {D : Ends} (c : Cls K C) (n : NoAttr K C "_amount"), (∀ H', H' x = some (.ins C dx (putF "_amount" (.int a) [])) → (∀ b o, H1 b = some o → b ≠ x → H' b = some o) → D.nx [some (.ref x), some (.int a)] H') → sFld K (tVar 0) (tVar 1) "_amount" D [some (.ref x), some (.int a)] H1 := fun c n q =>
      s_fld (ev_var rfl) (fun _ _ => ev_var rfl) (e1 _ _ hx) c n (by decide) fun H2 e2 => q _ upd_same fun b o hb hne => by rw [upd_ne hne]; exact e2 b o hb
    rcases hC with rfl | rfl
    · exact go T.cl_Rule T.na_Rule__amount fun H' h1 h2 => k H' h1 fun b o hb hne => h2 b o (e1 b o hb) hne
    · exact go T.cl_SoldRule T.na_SoldRule__amount fun H' h1 h2 => k H' h1 fun b o hb hne => h2 b o (e1 b o hb) hne
theorem ok_RefillRule___init__ (T : Txt K mg Z) : FnOk P w K mg base CX0 4 Z.f_RefillRule___init__ Z.d_RefillRule___init__ p_RefillRule___init__ (sp_Rinit Z isRef mkRef) := by
  refine T.F_RefillRule___init__.ok sc_RefillRule___init__ (fun vs H Q E h => ?_) (fun cdv Ar outer s H vs Q E hr h => ?_)
  · obtain ⟨x, dx, ws, rk, rfl, ⟨g, rfl, _⟩, _⟩ := h
    rfl
  · obtain ⟨x, dx, ws, rk, rfl, ⟨g, rfl, rfl⟩, _, ⟨g0, g1⟩, hx, k⟩ := h
    refine ⟨_, (pss_cons (ps_expr (pe_call (ok_check_part T) (hr.mono (by decide)) (by rfl) T.g_check_part T.F_check_part.kp T.b_check_part .nil pass0 (pa_cons pe_str (pa_cons (pv 1) (pa_cons pe_int pa_nil)))))
      (pss_one (ps_fld (pv 0) (pv 1) rfl))), ?_⟩
    refine q_drop (ev_call (ea_cons ev_c (ea_cons (ev_var rfl) (ea_cons ev_c ea_nil))) (spv_part g0 g1)) fun H1 e1 => ?_
    exact s_fld (ev_var rfl) (fun _ _ => ev_var rfl) (e1 _ _ hx) T.cl_RefillRule T.na_RefillRule__goal (by decide) fun H2 e2 => k _ upd_same fun b o hb hne => by rw [upd_ne hne]; exact e2 b o (e1 b o hb)
/-! ### what they bake -/
def sp_baked (Z : Ad) (kind : RK → Prop) : Sp := fun vs H Q _ => ∃ (r dx : Addr) (rk : RK) (d : Nat) (st so : Int), vs = [.ref r, .int (d : Int), .int st, .int so] ∧ kind rk ∧ RuleR Z H r dx rk ∧ RetV (.int (rk.bake d st so)) H Q
theorem ok_Rule_count_baked (T : Txt K mg Z) : FnOk P w K mg base CX0 1 Z.f_Rule_count_baked Z.d_Rule_count_baked p_Rule_count_baked (sp_baked Z isFix) := by
  refine T.F_Rule_count_baked.ok sc_Rule_count_baked (fun vs H Q E h => ?_) (fun cdv Ar outer s H vs Q E hr h => ?_)
  · obtain ⟨r, dx, rk, d, st, so, rfl, _⟩ := h
    rfl
  · obtain ⟨r, dx, rk, d, st, so, rfl, hk, hR, k⟩ := h
    cases rk with
    | fix a =>
      have fa : FlK K H r Z.c_Rule "_amount" (.int a) := flk_of hR.ins T.cl_Rule T.na_Rule__amount rfl
      refine ⟨_, (pss_one (ps_ret (pe_fldK K rfl (pv 0) rfl))), ?_⟩
      exact s_ret (by walk_at "ev") fun H1 e1 => k H1 e1
    | ref g => exact hk.elim
    | sol a m => exact hk.elim
theorem ok_RefillRule_count_baked (T : Txt K mg Z) : FnOk P w K mg base CX0 1 Z.f_RefillRule_count_baked Z.d_RefillRule_count_baked p_RefillRule_count_baked (sp_baked Z isRef) := by
  refine T.F_RefillRule_count_baked.ok sc_RefillRule_count_baked (fun vs H Q E h => ?_) (fun cdv Ar outer s H vs Q E hr h => ?_)
  · obtain ⟨r, dx, rk, d, st, so, rfl, _⟩ := h
    rfl
  · obtain ⟨r, dx, rk, d, st, so, rfl, hk, hR, k⟩ := h
    cases rk with
    | fix a => exact hk.elim
    | ref g =>
      have fg : FlK K H r Z.c_RefillRule "_goal" (.int g) := flk_of hR.ins T.cl_RefillRule T.na_RefillRule__goal rfl
      refine ⟨_, (pss_one (ps_ret (pe_callB (r := rMax2) (call_max2 rfl) (by rfl) T.b_max boot_max (pa_cons pe_int (pa_cons (pe_op op_sub (pe_fldK K rfl (pv 0) rfl) (pv 2)) pa_nil))))), ?_⟩
      exact s_ret (ev_maxi ev_c (ev_op (by walk_at "ev") (ev_var rfl) rv_I0)) fun H1 e1 => k H1 e1
    | sol a m => exact hk.elim
theorem ok_SoldRule_count_baked (T : Txt K mg Z) : FnOk P w K mg base CX0 1 Z.f_SoldRule_count_baked Z.d_SoldRule_count_baked p_SoldRule_count_baked (sp_baked Z isSol) := by
  refine T.F_SoldRule_count_baked.ok sc_SoldRule_count_baked (fun vs H Q E h => ?_) (fun cdv Ar outer s H vs Q E hr h => ?_)
  · obtain ⟨r, dx, rk, d, st, so, rfl, _⟩ := h
    rfl
  · obtain ⟨r, dx, rk, d, st, so, rfl, hk, hR, k⟩ := h
    cases rk with
    | fix a => exact hk.elim
    | ref g => exact hk.elim
    | sol a m =>
      have fa : FlK K H r Z.c_SoldRule "_amount" (.int a) := flk_of hR.ins T.cl_SoldRule T.na_SoldRule__amount rfl
      have fm : FlK K H r Z.c_SoldRule "_more" (.int m) := flk_of hR.ins T.cl_SoldRule T.na_SoldRule__more rfl
      refine ⟨_, (pss_cons (ps_if (pt_cmpR op_eq (pv 1) pe_int (nomark _)) (pss_one (ps_ret (pe_fldK K rfl (pv 0) rfl))) pss_nil)
      (pss_one (ps_ret (pe_callB (r := rMax2) (call_max2 rfl) (by rfl) T.b_max boot_max (pa_cons pe_int (pa_cons (pe_callB (r := rMn) (call_min2 rfl) (by rfl) T.b_min boot_min (pa_cons (pe_glob (v := .int 1000000000) (by rfl) T.g_MOST_LOAVES ⟨_, rfl⟩) (pa_cons (pe_op op_add (pv 3) (pe_fldK K rfl (pv 0) rfl)) pa_nil))) pa_nil)))))), ?_⟩
      refine q_when (b := decide (d = 0)) (et_test (ev_is (ev_op (ev_var rfl) ev_c (rv_eq rfl)) ?_)) (fun hb H1 e1 => ?_) (fun hb H1 e1 => ?_)
      · have z : (V.int (d : Int) = V.int 0) ↔ d = 0 := ⟨fun z => by injection z with z; omega, fun z => by rw [z]; rfl⟩
        simp [z]
      · have hd : d = 0 := by simpa using hb
        have fa1 := fa.mono e1
        refine s_ret (by walk_at "ev") fun H2 e2 => ?_
        have z := k H2 (e1.trans e2)
        rw [show (RK.sol a m).bake d st so = a from if_pos hd] at z
        exact z
      · have hd : ¬ d = 0 := by simpa using hb
        have fm1 := fm.mono e1
        refine s_ret (ev_maxi ev_c (ev_min2 ev_c (ev_op (ev_var rfl) (by walk_at "ev") rv_I0))) fun H2 e2 => ?_
        have z := k H2 (e1.trans e2)
        rw [show (RK.sol a m).bake d st so = max 0 (min 1000000000 (so + m)) from if_neg hd] at z
        exact z
end Sw
namespace Sw
open PySem PySem.Spec PyProof.Rows L2 Evl GnX
local macro_rules | `(tactic| walk_at "ev") => `(tactic| first
  | exact ev_c
  | exact ev_var rfl
  | ((with_reducible show Ev (tCB rMax2 _) _ _ _); exact ev_maxi (by walk_at "ev") (by walk_at "ev"))
  | ((with_reducible show Ev (tCB rMn _) _ _ _); exact ev_min2 (by walk_at "ev") (by walk_at "ev"))
  | ((with_reducible show Ev (tUn _ _) _ _ _); exact ev_un (by walk_at "ev") ru_neg)
  | ((with_reducible show Ev (tFld _ _ _) _ _ _); exact ev_fldK (by walk_at "ev") (by assumption))
  | ((with_reducible show Ev (tOp (rI0 _) _ _) _ _ _); exact ev_op (by walk_at "ev") (by walk_at "ev") rv_I0)
  | ((with_reducible show Ev (tOp rEq _ _) _ _ _); exact ev_op (by walk_at "ev") (by walk_at "ev") (rv_eq rfl))
  | ((with_reducible show Ev (tOp rNe _ _) _ _ _); exact ev_op (by walk_at "ev") (by walk_at "ev") (rv_ne rfl)))

/-! ### run -/
section
variable {D : GE} {k i j : Nat} {σ : L2.St} {H : Hp} {te ta tb : TE} {t : TA} {u tz : TG2} {v z : V} {xs vs dvs : List V} {K : PySem.W.Frag} {sp : Sp} {E : XK}
theorem g_drop (h : Ev te σ H v) (q : ∀ H1, Ex H H1 → u D k σ H1) : tGThen2 (tPlain2 (tDrop te)) u D k σ H := h H (Ex.refl _) _ fun H1 e => q H1 e
theorem g_forR1 {ta : TA} {n : Int} (h : EvA ta σ H [.int n]) (hn : 0 ≤ n ∧ n ≤ 100000) (Pv : Nat → Nat → L2.St → Hp → Prop) (h0 : ∀ H1, Ex H H1 → Pv 0 k σ H1)
    (hs : ∀ (i k : Nat) σ' H', (i : Int) < n → Pv i k σ' H' → tz { nx := Pv (i + 1), bk := fun k' σ' H' => u D k' σ' H', ct := Pv (i + 1) } k (σ'.set j (some (.int (i : Int)))) H') (hd : ∀ k σ' H', Pv n.toNat k σ' H' → u D k σ' H') : tGThen2 (tGFor2 (iRng1 ta) (gName j) tz) u D k σ H :=
  h H (Ex.refl H) _ fun H1 e => ⟨n, rfl, by omega, by omega, fun i m k σ H => m = n.toNat - i ∧ i ≤ n.toNat ∧ Pv i k σ H, ⟨n.toNat, by simp, Nat.zero_le _, h0 H1 e⟩, by
    rintro i m k σ H ⟨rfl, hi, p⟩
    by_cases hlt : i < n.toNat
    · refine .inr ⟨hlt, Pv (i + 1), fun k' σ' H' q => ⟨n.toNat - (i + 1), by omega, rfl, hlt, q⟩, fun x H' y => ?_⟩
      obtain ⟨rfl, rfl⟩ := y
      have z := hs i k σ H' (by omega) p
      have e0 : (0 : Int) + (i : Int) = (i : Int) := Int.zero_add _
      show tz _ k (σ.set j (some (.int ((0 : Int) + (i : Int))))) H'
      rw [e0]
      exact z
    · have e1 : i = n.toNat := by omega
      subst e1
      exact .inl ⟨Nat.le_refl _, hd k σ H p⟩⟩
theorem el_isV {ys : List V} (h : EvL te σ H ys) (e : ys = xs) : EvL te σ H xs := e ▸ h
theorem ew_rep1 {n : Int} (ha : EvU ta σ H [v]) (hb : Ev tb σ H (.int n)) (h0 : 1 ≤ n) (h1 : n ≤ 1000) : EvW K (tOp (rRep1 K) ta tb) σ H (List.replicate n.toNat v) := fun H1 e Q q =>
  ha H1 e _ fun p H2 np e2 hp => hb H2 (e.trans e2) _ fun H3 e3 => ⟨p, n, [v], rfl, rfl, st_of (e3 _ _ hp), by simp, h0, h1, by simp, fun hk => q p H3 (e2.trans e3) (by rw [hk]; exact st_of (e3 _ _ hp)), fun r hr => q r _ ((e2.trans e3).trans (Ex.new hr)) (by
    have z : (List.replicate n.toNat [v]).flatten = List.replicate n.toNat v := by simp
    rw [z]
    exact st_of upd_same)⟩
theorem ev_callW (ha : EvW K ta σ H xs) (hb : EvA t σ H vs) (hs : ∀ p H1, Ex H H1 → SqT K H1 p xs → SpV sp (.ref p :: (vs ++ dvs)) H1 z) : Ev (tCall sp dvs E (tCons ta t)) σ H z := fun H1 e Q q =>
  ha H1 e _ fun p H2 e2 hp => hb H2 (e.trans e2) _ fun H3 e3 => hs p H3 ((e.trans e2).trans e3) (ex_t e3 hp) H3 (Ex.refl _) Q (fun H4 e4 => q H4 ((e2.trans e3).trans e4)) E
theorem spv_check {a b : Addr} {bs ds : List Int} {life : Int} (h1 : SqT K H a (bs.map V.int)) (h2 : SqT K H b (ds.map V.int)) (gd : Good bs ds) (l0 : 1 ≤ life) (l1 : life ≤ 30) : SpV (sp_check K) [.ref a, .ref b, .int life] H .non := fun _ e _ q _ => ⟨a, b, bs, ds, life, rfl, ex_t e h1, ex_t e h2, gd, l0, l1, q⟩
theorem spv_baked {Z : Ad} {kind : RK → Prop} {r dx : Addr} {rk : RK} {d : Nat} {st so : Int} (h : RuleR Z H r dx rk) (hk : kind rk) : SpV (sp_baked Z kind) [.ref r, .int (d : Int), .int st, .int so] H (.int (rk.bake d st so)) := fun _ e _ q _ => ⟨r, dx, rk, d, st, so, rfl, hk, h.mono e, q⟩
end
theorem sqt_rep {K : PySem.W.Frag} {H : Hp} {p : Addr} {m : Nat} {c : Int} (h : SqT K H p (List.replicate ((m : Int)).toNat (V.int c))) : SqT K H p ((List.replicate m c).map V.int) := by
  rw [List.map_replicate]
  rw [Int.toNat_natCast] at h
  exact h
theorem mod_nat {L : Nat} (i : Nat) (hL : 0 < L) : 0 ≤ (i : Int) % (L : Int) ∧ (i : Int) % (L : Int) < (L : Int) ∧ ((i : Int) % (L : Int)).toNat = i % L := by
  refine ⟨Int.emod_nonneg _ (by omega), Int.emod_lt_of_pos _ (by omega), ?_⟩
  omega
/-- what run reads of its caller's -/
def cnOf (Z : Ad) (r dx td : Addr) (rk : RK) (ds : List Int) : Kn := [(r, .ins (ruleC Z rk) dx (ruleF rk)), (dx, .own r), (td, .tup (ds.map V.int))]
theorem cn_look {Z : Ad} {r dx td : Addr} {rk : RK} {ds : List Int} {b : Addr} {u : HO} (h : (cnOf Z r dx td rk ds).lookup b = some u) : (b = r ∧ u = .ins (ruleC Z rk) dx (ruleF rk)) ∨ (b = dx ∧ u = .own r) ∨ (b = td ∧ u = .tup (ds.map V.int)) := by
  rcases List.mem_cons.mp (mem_look h) with z | z
  · exact .inl ⟨congrArg Prod.fst z, congrArg Prod.snd z⟩
  · rcases List.mem_cons.mp z with z | z
    · exact .inr (.inl ⟨congrArg Prod.fst z, congrArg Prod.snd z⟩)
    · have z := List.mem_singleton.mp z
      exact .inr (.inr ⟨congrArg Prod.fst z, congrArg Prod.snd z⟩)
theorem look_hd {b : Addr} {u : HO} {l : Kn} : ((b, u) :: l).lookup b = some u := by rw [List.lookup_cons, beq_self_eq_true]
theorem look_tl {b c : Addr} {u : HO} {l : Kn} (h : b ≠ c) : ((c, u) :: l).lookup b = l.lookup b := by
  rw [List.lookup_cons]
  have z : (b == c) = false := beq_eq_false_iff_ne.mpr h
  rw [z]
theorem knows_cn {Z : Ad} {H : Hp} {r dx td : Addr} {rk : RK} {ds : List Int} (h : RuleR Z H r dx rk) (ht : H td = some (.tup (ds.map V.int))) : Knows (cnOf Z r dx td rk ds) H := fun b u e => by
  rcases cn_look e with ⟨rfl, rfl⟩ | ⟨rfl, rfl⟩ | ⟨rfl, rfl⟩
  · exact h.ins
  · exact h.own
  · exact ht
theorem knows_run {Z : Ad} {H : Hp} {r dx td : Addr} {rk : RK} {ds : List Int} (h : Knows (cnOf Z r dx td rk ds) H) (hne : r ≠ dx ∧ td ≠ r ∧ td ≠ dx) : RuleR Z H r dx rk ∧ H td = some (.tup (ds.map V.int)) :=
  ⟨⟨h _ _ look_hd, h _ _ ((look_tl (Ne.symm hne.1)).trans look_hd)⟩, h _ _ ((look_tl hne.2.1).trans ((look_tl hne.2.2).trans look_hd))⟩
theorem cn_ne {Z : Ad} {H : Hp} {r dx td : Addr} {rk : RK} {ds : List Int} (h : RuleR Z H r dx rk) (ht : H td = some (.tup (ds.map V.int))) : r ≠ dx ∧ td ≠ r ∧ td ≠ dx :=
  ⟨ne_of h.ins h.own (fun z => by cases z), ne_of ht h.ins (fun z => by cases z), ne_of ht h.own (fun z => by cases z)⟩
theorem cn_clo {Z : Ad} {H : Hp} {r dx td : Addr} {rk : RK} {ds : List Int} (h : RuleR Z H r dx rk) (ht : H td = some (.tup (ds.map V.int))) : Clo (cnOf Z r dx td rk ds) := fun b u e => by
  obtain ⟨n1, n2, n3⟩ := cn_ne h ht
  rcases cn_look e with ⟨rfl, rfl⟩ | ⟨rfl, rfl⟩ | ⟨rfl, rfl⟩
  · exact (look_tl (Ne.symm n1)).trans look_hd
  · exact ⟨_, _, look_hd⟩
  · trivial
theorem rrows_len {rk : RK} {ds : List Int} {L n : Nat} : (rrows rk ds L n).length = n := by simp [rrows]
theorem rrows_get {rk : RK} {ds : List Int} {L n i : Nat} (h : i < n) : ((rrows rk ds L n).map (·.map V.int))[i]? = some ((rrow rk ds L i).map V.int) := by
  unfold rrows
  rw [List.getElem?_map, List.getElem?_map, List.getElem?_range h]
  rfl
def sp_run (Z : Ad) : SpGn := fun vs H cn rows => ∃ (r dx td : Addr) (rk : RK) (ds : List Int) (L n : Nat), vs = [.ref r, .ref td, .int (L : Int), .int (n : Int)] ∧ RuleR Z H r dx rk ∧ rk.ok ∧ H td = some (.tup (ds.map V.int)) ∧ 0 < ds.length ∧ ds.length ≤ 24 ∧ (∀ x ∈ ds, 0 ≤ x ∧ x ≤ 1000000000) ∧ 1 ≤ L ∧ L ≤ 30 ∧ n ≤ 10000 ∧
  cn = cnOf Z r dx td rk ds ∧ rows = (rrows rk ds L n).map (·.map V.int)
variable {P : Program} {w : World} {K : PySem.W.Frag} {mg : Str → Option Value} {base : Heap} {Z : Ad}
set_option maxHeartbeats 8000000 in
theorem ok_run (T : Txt K mg Z) : GFact P w K mg base 5 Z.f_run Z.d_run p_run (sp_run Z) := by
  refine fun_gn T.F_run sc_run sn_run (fun vs H cn rows h => ?_) (fun vs H cn rows h => ?_) (fun cdv Ar outer n0 H vs cn rows WK CY CE hr h => ?_)
  · obtain ⟨r, dx, td, rk, ds, L, n, rfl, _⟩ := h
    rfl
  · obtain ⟨r, dx, td, rk, ds, L, n, rfl, hR, hok, htd, n0', n1, hd, hL0, hL1, hn, rfl, rfl⟩ := h
    exact ⟨cn_clo hR htd, knows_cn hR htd⟩
  · obtain ⟨r, dx, td, rk, ds, L, n, rfl, hR, hok, htd, n0', n1, hd, hL0, hL1, hn, rfl, rfl⟩ := h
    have hrd := cn_ne hR htd
    have hlen : (((ds.map V.int).length : Nat) : Int) = (ds.length : Int) := by rw [List.length_map]
    have gd : Good (List.replicate ds.length 0) ds := ⟨by rw [List.length_replicate]; exact n0', by rw [List.length_replicate]; exact n1, by rw [List.length_replicate], fun x hx => by have := List.eq_of_mem_replicate hx; omega, hd⟩
    rcases rk with a | g | ⟨a, m⟩
    · refine ⟨_, (GnX.gss2_cons (GnX.gs2_ps (fun _ _ => (ps_expr (pe_call (ok_check_bakery T) (hr.mono (by decide)) (by rfl) T.g_check_bakery T.F_check_bakery.kp T.b_check_bakery .nil pass0 (pa_cons (pe_op (op_rep1K K rfl) (pe_tup (pa_cons pe_int pa_nil)) (pe_callB (r := rLenS K) (call_len_seq) (by rfl) T.b_len boot_len (pa_cons (pv 1) pa_nil))) (pa_cons (pv 1) (pa_cons (pv 2) pa_nil)))))))
      (GnX.gss2_cons (GnX.gs2_ps (fun _ _ => (ps_expr (pe_call (ok_check_number T) (hr.mono (by decide)) (by rfl) T.g_check_number T.F_check_number.kp T.b_check_number .nil pass0 (pa_cons (pv 3) (pa_cons pe_int (pa_cons (pe_glob (v := .int 10000) (by rfl) T.g_MOST_RULE_DAYS ⟨_, rfl⟩) pa_nil)))))))
      (GnX.gss2_cons (GnX.gs2_ps (fun _ _ => (ps_asg2 pe_int (pg_name (i := 4) sc_run.nd rfl (Or.inl rfl)) (pg_name (i := 5) sc_run.nd rfl (Or.inl rfl)))))
      (GnX.gss2_cons (GnX.gs2_ps (fun _ _ => (ps_set (i := 6) sc_run.nd rfl (Or.inl rfl) (pe_op op_rep (pe_lst (pa_cons pe_int pa_nil)) (pv 2)))))
      (GnX.gss2_cons (GnX.gs2_for (fun _ _ => (pi_range1 (by rfl) T.b_range (pa_cons (pv 3) pa_nil))) (fun _ _ => (pg_name (i := 7) sc_run.nd rfl (Or.inl rfl))) (GnX.gss2_cons (GnX.gs2_ps (fun _ _ => (ps_set (i := 8) sc_run.nd rfl (Or.inl rfl) (pe_ix (r := rIxT K) ix_tup (pv 1) (pe_op op_mod (pv 7) (pe_callB (r := rLenS K) (call_len_seq) (by rfl) T.b_len boot_len (pa_cons (pv 1) pa_nil))) (fun _ _ => rfl)))))
      (GnX.gss2_cons (GnX.gs2_ps (fun _ _ => (ps_set (i := 9) sc_run.nd rfl (Or.inl rfl) (pe_meth (pv 0) T.cl_Rule T.m_Rule_count_baked (ok_Rule_count_baked T) (hr.mono (by decide)) T.b_Rule_count_baked .nil pass0 (pa_cons (pv 7) (pa_cons (pv 4) (pa_cons (pv 5) pa_nil)))))))
      (GnX.gss2_cons (GnX.gs2_ps (fun _ _ => (ps_set (i := 6) sc_run.nd rfl (Or.inl rfl) (pe_op op_cat (pe_lst (pa_cons (pv 9) pa_nil)) (pe_slice (r := rSlL K) sl_list (pv 6) po_none (po_some (pe_un un_neg pe_int)))))))
      (GnX.gss2_cons (GnX.gs2_ps (fun _ _ => (ps_set (i := 5) sc_run.nd rfl (Or.inl rfl) (pe_callB (r := rMn) (call_min2 rfl) (by rfl) T.b_min boot_min (pa_cons (pe_op op_add (pv 4) (pv 9)) (pa_cons (pv 8) pa_nil))))))
      (GnX.gss2_cons (GnX.gs2_ps (fun _ _ => (ps_set (i := 10) sc_run.nd rfl (Or.inl rfl) (pe_op op_sub (pe_op op_add (pv 4) (pv 9)) (pv 5)))))
      (GnX.gss2_cons (GnX.gs2_ps (fun _ _ => (ps_set (i := 4) sc_run.nd rfl (Or.inl rfl) (pe_callB (r := rMn) (call_min2 rfl) (by rfl) T.b_min boot_min (pa_cons (pv 10) (pa_cons (pe_callB (r := rSum K) (cr_sum rfl) (by rfl) T.b_sum boot_sum (pa_cons (pe_slice (r := rSlL K) sl_list (pv 6) po_none (po_some (pe_un un_neg pe_int))) pa_nil)) pa_nil))))))
      (GnX.gss2_cons (GnX.gs2_yield (fun _ _ => (pe_tup (pa_cons (pv 9) (pa_cons (pv 5) (pa_cons (pe_op op_sub (pv 8) (pv 5)) (pa_cons (pe_op op_sub (pv 10) (pv 4)) pa_nil)))))) rfl rfl)
      GnX.gss2_nil))))))) (by intro _; rfl))
      GnX.gss2_nil))))), ?_⟩
      intro H0 hk0
      obtain ⟨hR0, ht0⟩ := knows_run hk0 hrd
      refine g_drop (ev_callW (ew_rep1 (n := (ds.length : Int)) (eu_tup (ea_cons ev_c ea_nil) (by show 1 ≤ 100000; decide)) (Ev.int_eq (ev_lenT (ev_var rfl) (st_of ht0)) hlen) (by omega) (by omega)) (ea_cons (ev_var rfl) (ea_cons (ev_var rfl) ea_nil)) fun p G eG hp => spv_check (sqt_rep hp) (ex_t eG (st_of ht0)) gd (by omega) (by omega)) fun H1 e1 => ?_
      refine g_drop (ev_call (ea_cons (ev_var rfl) (ea_cons ev_c (ea_cons ev_c ea_nil))) (spv_num (by omega) (by omega))) fun H2 e2 => ?_
      refine g_asg2 ev_c fun H3 e3 => ?_
      refine g_asgL (xs := (List.replicate L (0 : Int)).map V.int) (el_isV (el_repR (el_lst (ea_cons ev_c ea_nil) (by show 1 ≤ 100000; decide)) (ev_var rfl) (by omega) (by omega)) (by simp)) fun p H4 np e4 hp => ?_
      have k4 := hk0.ex (((e1.trans e2).trans e3).trans e4)
      refine g_forR1 (n := (n : Int)) (ea_cons (ev_var rfl) ea_nil) ⟨by omega, by omega⟩ (fun i k σ' H' => k = i ∧ Knows (cnOf Z r dx td (RK.fix a) ds) H' ∧ ∃ (p : Addr) (x7 x8 x9 x10 : Option V), H' p = some (.lst ((rst (RK.fix a) ds L i).rc.map V.int)) ∧
        σ' = [some (.ref r), some (.ref td), some (.int (L : Int)), some (.int (n : Int)), some (.int (rst (RK.fix a) ds L i).st), some (.int (rst (RK.fix a) ds L i).so), some (.ref p), x7, x8, x9, x10]) (fun H5 e5 => ⟨rfl, k4.ex e5, p, _, _, _, _, e5 _ _ hp, rfl⟩) ?_ ?_
      · rintro i0 i σ' H' hi ⟨rfl, kn, p, x7, x8, x9, x10, hp, rfl⟩
        obtain ⟨hR, ht⟩ := knows_run kn hrd
        have hm := mod_nat i n0'
        refine g_asg (v := .int (dem ds i)) (ev_ixT (ev_var rfl) (st_of ht) (ev_op (ev_var rfl) (Ev.int_eq (ev_lenT (ev_var rfl) (st_of ht)) hlen) (rv_I (by show (0 : Int) < _; omega))) (by rw [atI_mapI hm.1 hm.2.1, hm.2.2]; rfl)) fun H1 e1 => ?_
        refine g_asg (v := .int (rbak (RK.fix a) i (rst (RK.fix a) ds L i))) (ev_meth (ev_var rfl) ⟨dx, _, (hR.mono e1).ins, rfl⟩ (ea_cons (ev_var rfl) (ea_cons (ev_var rfl) (ea_cons (ev_var rfl) ea_nil))) (spv_baked (hR.mono e1) trivial)) fun H2 e2 => ?_
        have hp2 := (e1.trans e2) _ _ hp
        refine g_asgL (xs := (rrec (RK.fix a) i (rst (RK.fix a) ds L i)).map V.int) (el_isV (el_catN (el_lst (ea_cons (ev_var rfl) ea_nil) (by show 1 ≤ 100000; decide)) (el_init (ev_var rfl) (sq_of hp2) (ev_un ev_c ru_neg)) (by rw [List.length_dropLast, List.length_map, rc_len hL0]; simp; omega)) (by simp [rrec, List.map_dropLast])) fun p2 H3 np2 e3 hp3 => ?_
        refine g_asg (v := .int (rsol (RK.fix a) ds i (rst (RK.fix a) ds L i))) (ev_min2 (ev_op (ev_var rfl) (ev_var rfl) rv_I0) (ev_var rfl)) fun H4 e4 => ?_
        refine g_asg (v := .int (rlef (RK.fix a) ds i (rst (RK.fix a) ds L i))) (ev_op (ev_op (ev_var rfl) (ev_var rfl) rv_I0) (ev_var rfl) rv_I0) fun H5 e5 => ?_
        have hp5 := (e4.trans e5) _ _ hp3
        refine g_asg (v := .int (rnew (RK.fix a) ds i (rst (RK.fix a) ds L i))) (ev_min2 (ev_var rfl) (ev_sumN (ns := (rrec (RK.fix a) i (rst (RK.fix a) ds L i)).dropLast) (el_isV (el_init (ev_var rfl) (sq_of hp5) (ev_un ev_c ru_neg)) (by rw [List.map_dropLast])))) fun H6 e6 => ?_
        have kn6 := kn.ex ((((e1.trans e2).trans e3).trans (e4.trans e5)).trans e6)
        refine g_yield (B := ⟨plOf P w K mg base n_run "run" (L2.defScope s_run) Z.f_run cdv Ar outer n0, cnOf Z r dx td (RK.fix a) ds, (rrows (RK.fix a) ds L n).map (·.map V.int), WK, CY, CE⟩) (row := (rrow (RK.fix a) ds L i).map V.int) (xs := (rrec (RK.fix a) i (rst (RK.fix a) ds L i)).map V.int) (l := p2) (by show i < ((rrows (RK.fix a) ds L n).map (·.map V.int)).length; rw [List.length_map, rrows_len]; omega)
          ?_ (rrows_get (by omega)) kn6 (e6 _ _ hp5) (new_out (kn.ex (e1.trans e2)) np2) fun G kG hG => ?_
        rotate_left
        · exact ⟨rfl, kG, p2, _, _, _, _, hG, rfl⟩
        exact eu_tup (ea_cons (ev_var rfl) (ea_cons (ev_var rfl) (ea_cons (ev_op (ev_var rfl) (ev_var rfl) rv_I0) (ea_cons (ev_op (ev_var rfl) (ev_var rfl) rv_I0) ea_nil)))) (by show 4 ≤ 100000; decide)
      · rintro k σ' H' ⟨hk, kn, _⟩
        exact ⟨by show k = ((rrows (RK.fix a) ds L n).map (·.map V.int)).length; rw [List.length_map, rrows_len]; omega, kn⟩
    · refine ⟨_, (GnX.gss2_cons (GnX.gs2_ps (fun _ _ => (ps_expr (pe_call (ok_check_bakery T) (hr.mono (by decide)) (by rfl) T.g_check_bakery T.F_check_bakery.kp T.b_check_bakery .nil pass0 (pa_cons (pe_op (op_rep1K K rfl) (pe_tup (pa_cons pe_int pa_nil)) (pe_callB (r := rLenS K) (call_len_seq) (by rfl) T.b_len boot_len (pa_cons (pv 1) pa_nil))) (pa_cons (pv 1) (pa_cons (pv 2) pa_nil)))))))
      (GnX.gss2_cons (GnX.gs2_ps (fun _ _ => (ps_expr (pe_call (ok_check_number T) (hr.mono (by decide)) (by rfl) T.g_check_number T.F_check_number.kp T.b_check_number .nil pass0 (pa_cons (pv 3) (pa_cons pe_int (pa_cons (pe_glob (v := .int 10000) (by rfl) T.g_MOST_RULE_DAYS ⟨_, rfl⟩) pa_nil)))))))
      (GnX.gss2_cons (GnX.gs2_ps (fun _ _ => (ps_asg2 pe_int (pg_name (i := 4) sc_run.nd rfl (Or.inl rfl)) (pg_name (i := 5) sc_run.nd rfl (Or.inl rfl)))))
      (GnX.gss2_cons (GnX.gs2_ps (fun _ _ => (ps_set (i := 6) sc_run.nd rfl (Or.inl rfl) (pe_op op_rep (pe_lst (pa_cons pe_int pa_nil)) (pv 2)))))
      (GnX.gss2_cons (GnX.gs2_for (fun _ _ => (pi_range1 (by rfl) T.b_range (pa_cons (pv 3) pa_nil))) (fun _ _ => (pg_name (i := 7) sc_run.nd rfl (Or.inl rfl))) (GnX.gss2_cons (GnX.gs2_ps (fun _ _ => (ps_set (i := 8) sc_run.nd rfl (Or.inl rfl) (pe_ix (r := rIxT K) ix_tup (pv 1) (pe_op op_mod (pv 7) (pe_callB (r := rLenS K) (call_len_seq) (by rfl) T.b_len boot_len (pa_cons (pv 1) pa_nil))) (fun _ _ => rfl)))))
      (GnX.gss2_cons (GnX.gs2_ps (fun _ _ => (ps_set (i := 9) sc_run.nd rfl (Or.inl rfl) (pe_meth (pv 0) T.cl_RefillRule T.m_RefillRule_count_baked (ok_RefillRule_count_baked T) (hr.mono (by decide)) T.b_RefillRule_count_baked .nil pass0 (pa_cons (pv 7) (pa_cons (pv 4) (pa_cons (pv 5) pa_nil)))))))
      (GnX.gss2_cons (GnX.gs2_ps (fun _ _ => (ps_set (i := 6) sc_run.nd rfl (Or.inl rfl) (pe_op op_cat (pe_lst (pa_cons (pv 9) pa_nil)) (pe_slice (r := rSlL K) sl_list (pv 6) po_none (po_some (pe_un un_neg pe_int)))))))
      (GnX.gss2_cons (GnX.gs2_ps (fun _ _ => (ps_set (i := 5) sc_run.nd rfl (Or.inl rfl) (pe_callB (r := rMn) (call_min2 rfl) (by rfl) T.b_min boot_min (pa_cons (pe_op op_add (pv 4) (pv 9)) (pa_cons (pv 8) pa_nil))))))
      (GnX.gss2_cons (GnX.gs2_ps (fun _ _ => (ps_set (i := 10) sc_run.nd rfl (Or.inl rfl) (pe_op op_sub (pe_op op_add (pv 4) (pv 9)) (pv 5)))))
      (GnX.gss2_cons (GnX.gs2_ps (fun _ _ => (ps_set (i := 4) sc_run.nd rfl (Or.inl rfl) (pe_callB (r := rMn) (call_min2 rfl) (by rfl) T.b_min boot_min (pa_cons (pv 10) (pa_cons (pe_callB (r := rSum K) (cr_sum rfl) (by rfl) T.b_sum boot_sum (pa_cons (pe_slice (r := rSlL K) sl_list (pv 6) po_none (po_some (pe_un un_neg pe_int))) pa_nil)) pa_nil))))))
      (GnX.gss2_cons (GnX.gs2_yield (fun _ _ => (pe_tup (pa_cons (pv 9) (pa_cons (pv 5) (pa_cons (pe_op op_sub (pv 8) (pv 5)) (pa_cons (pe_op op_sub (pv 10) (pv 4)) pa_nil)))))) rfl rfl)
      GnX.gss2_nil))))))) (by intro _; rfl))
      GnX.gss2_nil))))), ?_⟩
      intro H0 hk0
      obtain ⟨hR0, ht0⟩ := knows_run hk0 hrd
      refine g_drop (ev_callW (ew_rep1 (n := (ds.length : Int)) (eu_tup (ea_cons ev_c ea_nil) (by show 1 ≤ 100000; decide)) (Ev.int_eq (ev_lenT (ev_var rfl) (st_of ht0)) hlen) (by omega) (by omega)) (ea_cons (ev_var rfl) (ea_cons (ev_var rfl) ea_nil)) fun p G eG hp => spv_check (sqt_rep hp) (ex_t eG (st_of ht0)) gd (by omega) (by omega)) fun H1 e1 => ?_
      refine g_drop (ev_call (ea_cons (ev_var rfl) (ea_cons ev_c (ea_cons ev_c ea_nil))) (spv_num (by omega) (by omega))) fun H2 e2 => ?_
      refine g_asg2 ev_c fun H3 e3 => ?_
      refine g_asgL (xs := (List.replicate L (0 : Int)).map V.int) (el_isV (el_repR (el_lst (ea_cons ev_c ea_nil) (by show 1 ≤ 100000; decide)) (ev_var rfl) (by omega) (by omega)) (by simp)) fun p H4 np e4 hp => ?_
      have k4 := hk0.ex (((e1.trans e2).trans e3).trans e4)
      refine g_forR1 (n := (n : Int)) (ea_cons (ev_var rfl) ea_nil) ⟨by omega, by omega⟩ (fun i k σ' H' => k = i ∧ Knows (cnOf Z r dx td (RK.ref g) ds) H' ∧ ∃ (p : Addr) (x7 x8 x9 x10 : Option V), H' p = some (.lst ((rst (RK.ref g) ds L i).rc.map V.int)) ∧
        σ' = [some (.ref r), some (.ref td), some (.int (L : Int)), some (.int (n : Int)), some (.int (rst (RK.ref g) ds L i).st), some (.int (rst (RK.ref g) ds L i).so), some (.ref p), x7, x8, x9, x10]) (fun H5 e5 => ⟨rfl, k4.ex e5, p, _, _, _, _, e5 _ _ hp, rfl⟩) ?_ ?_
      · rintro i0 i σ' H' hi ⟨rfl, kn, p, x7, x8, x9, x10, hp, rfl⟩
        obtain ⟨hR, ht⟩ := knows_run kn hrd
        have hm := mod_nat i n0'
        refine g_asg (v := .int (dem ds i)) (ev_ixT (ev_var rfl) (st_of ht) (ev_op (ev_var rfl) (Ev.int_eq (ev_lenT (ev_var rfl) (st_of ht)) hlen) (rv_I (by show (0 : Int) < _; omega))) (by rw [atI_mapI hm.1 hm.2.1, hm.2.2]; rfl)) fun H1 e1 => ?_
        refine g_asg (v := .int (rbak (RK.ref g) i (rst (RK.ref g) ds L i))) (ev_meth (ev_var rfl) ⟨dx, _, (hR.mono e1).ins, rfl⟩ (ea_cons (ev_var rfl) (ea_cons (ev_var rfl) (ea_cons (ev_var rfl) ea_nil))) (spv_baked (hR.mono e1) trivial)) fun H2 e2 => ?_
        have hp2 := (e1.trans e2) _ _ hp
        refine g_asgL (xs := (rrec (RK.ref g) i (rst (RK.ref g) ds L i)).map V.int) (el_isV (el_catN (el_lst (ea_cons (ev_var rfl) ea_nil) (by show 1 ≤ 100000; decide)) (el_init (ev_var rfl) (sq_of hp2) (ev_un ev_c ru_neg)) (by rw [List.length_dropLast, List.length_map, rc_len hL0]; simp; omega)) (by simp [rrec, List.map_dropLast])) fun p2 H3 np2 e3 hp3 => ?_
        refine g_asg (v := .int (rsol (RK.ref g) ds i (rst (RK.ref g) ds L i))) (ev_min2 (ev_op (ev_var rfl) (ev_var rfl) rv_I0) (ev_var rfl)) fun H4 e4 => ?_
        refine g_asg (v := .int (rlef (RK.ref g) ds i (rst (RK.ref g) ds L i))) (ev_op (ev_op (ev_var rfl) (ev_var rfl) rv_I0) (ev_var rfl) rv_I0) fun H5 e5 => ?_
        have hp5 := (e4.trans e5) _ _ hp3
        refine g_asg (v := .int (rnew (RK.ref g) ds i (rst (RK.ref g) ds L i))) (ev_min2 (ev_var rfl) (ev_sumN (ns := (rrec (RK.ref g) i (rst (RK.ref g) ds L i)).dropLast) (el_isV (el_init (ev_var rfl) (sq_of hp5) (ev_un ev_c ru_neg)) (by rw [List.map_dropLast])))) fun H6 e6 => ?_
        have kn6 := kn.ex ((((e1.trans e2).trans e3).trans (e4.trans e5)).trans e6)
        refine g_yield (B := ⟨plOf P w K mg base n_run "run" (L2.defScope s_run) Z.f_run cdv Ar outer n0, cnOf Z r dx td (RK.ref g) ds, (rrows (RK.ref g) ds L n).map (·.map V.int), WK, CY, CE⟩) (row := (rrow (RK.ref g) ds L i).map V.int) (xs := (rrec (RK.ref g) i (rst (RK.ref g) ds L i)).map V.int) (l := p2) (by show i < ((rrows (RK.ref g) ds L n).map (·.map V.int)).length; rw [List.length_map, rrows_len]; omega)
          ?_ (rrows_get (by omega)) kn6 (e6 _ _ hp5) (new_out (kn.ex (e1.trans e2)) np2) fun G kG hG => ?_
        rotate_left
        · exact ⟨rfl, kG, p2, _, _, _, _, hG, rfl⟩
        exact eu_tup (ea_cons (ev_var rfl) (ea_cons (ev_var rfl) (ea_cons (ev_op (ev_var rfl) (ev_var rfl) rv_I0) (ea_cons (ev_op (ev_var rfl) (ev_var rfl) rv_I0) ea_nil)))) (by show 4 ≤ 100000; decide)
      · rintro k σ' H' ⟨hk, kn, _⟩
        exact ⟨by show k = ((rrows (RK.ref g) ds L n).map (·.map V.int)).length; rw [List.length_map, rrows_len]; omega, kn⟩
    · refine ⟨_, (GnX.gss2_cons (GnX.gs2_ps (fun _ _ => (ps_expr (pe_call (ok_check_bakery T) (hr.mono (by decide)) (by rfl) T.g_check_bakery T.F_check_bakery.kp T.b_check_bakery .nil pass0 (pa_cons (pe_op (op_rep1K K rfl) (pe_tup (pa_cons pe_int pa_nil)) (pe_callB (r := rLenS K) (call_len_seq) (by rfl) T.b_len boot_len (pa_cons (pv 1) pa_nil))) (pa_cons (pv 1) (pa_cons (pv 2) pa_nil)))))))
      (GnX.gss2_cons (GnX.gs2_ps (fun _ _ => (ps_expr (pe_call (ok_check_number T) (hr.mono (by decide)) (by rfl) T.g_check_number T.F_check_number.kp T.b_check_number .nil pass0 (pa_cons (pv 3) (pa_cons pe_int (pa_cons (pe_glob (v := .int 10000) (by rfl) T.g_MOST_RULE_DAYS ⟨_, rfl⟩) pa_nil)))))))
      (GnX.gss2_cons (GnX.gs2_ps (fun _ _ => (ps_asg2 pe_int (pg_name (i := 4) sc_run.nd rfl (Or.inl rfl)) (pg_name (i := 5) sc_run.nd rfl (Or.inl rfl)))))
      (GnX.gss2_cons (GnX.gs2_ps (fun _ _ => (ps_set (i := 6) sc_run.nd rfl (Or.inl rfl) (pe_op op_rep (pe_lst (pa_cons pe_int pa_nil)) (pv 2)))))
      (GnX.gss2_cons (GnX.gs2_for (fun _ _ => (pi_range1 (by rfl) T.b_range (pa_cons (pv 3) pa_nil))) (fun _ _ => (pg_name (i := 7) sc_run.nd rfl (Or.inl rfl))) (GnX.gss2_cons (GnX.gs2_ps (fun _ _ => (ps_set (i := 8) sc_run.nd rfl (Or.inl rfl) (pe_ix (r := rIxT K) ix_tup (pv 1) (pe_op op_mod (pv 7) (pe_callB (r := rLenS K) (call_len_seq) (by rfl) T.b_len boot_len (pa_cons (pv 1) pa_nil))) (fun _ _ => rfl)))))
      (GnX.gss2_cons (GnX.gs2_ps (fun _ _ => (ps_set (i := 9) sc_run.nd rfl (Or.inl rfl) (pe_meth (pv 0) T.cl_SoldRule T.m_SoldRule_count_baked (ok_SoldRule_count_baked T) (hr.mono (by decide)) T.b_SoldRule_count_baked .nil pass0 (pa_cons (pv 7) (pa_cons (pv 4) (pa_cons (pv 5) pa_nil)))))))
      (GnX.gss2_cons (GnX.gs2_ps (fun _ _ => (ps_set (i := 6) sc_run.nd rfl (Or.inl rfl) (pe_op op_cat (pe_lst (pa_cons (pv 9) pa_nil)) (pe_slice (r := rSlL K) sl_list (pv 6) po_none (po_some (pe_un un_neg pe_int)))))))
      (GnX.gss2_cons (GnX.gs2_ps (fun _ _ => (ps_set (i := 5) sc_run.nd rfl (Or.inl rfl) (pe_callB (r := rMn) (call_min2 rfl) (by rfl) T.b_min boot_min (pa_cons (pe_op op_add (pv 4) (pv 9)) (pa_cons (pv 8) pa_nil))))))
      (GnX.gss2_cons (GnX.gs2_ps (fun _ _ => (ps_set (i := 10) sc_run.nd rfl (Or.inl rfl) (pe_op op_sub (pe_op op_add (pv 4) (pv 9)) (pv 5)))))
      (GnX.gss2_cons (GnX.gs2_ps (fun _ _ => (ps_set (i := 4) sc_run.nd rfl (Or.inl rfl) (pe_callB (r := rMn) (call_min2 rfl) (by rfl) T.b_min boot_min (pa_cons (pv 10) (pa_cons (pe_callB (r := rSum K) (cr_sum rfl) (by rfl) T.b_sum boot_sum (pa_cons (pe_slice (r := rSlL K) sl_list (pv 6) po_none (po_some (pe_un un_neg pe_int))) pa_nil)) pa_nil))))))
      (GnX.gss2_cons (GnX.gs2_yield (fun _ _ => (pe_tup (pa_cons (pv 9) (pa_cons (pv 5) (pa_cons (pe_op op_sub (pv 8) (pv 5)) (pa_cons (pe_op op_sub (pv 10) (pv 4)) pa_nil)))))) rfl rfl)
      GnX.gss2_nil))))))) (by intro _; rfl))
      GnX.gss2_nil))))), ?_⟩
      intro H0 hk0
      obtain ⟨hR0, ht0⟩ := knows_run hk0 hrd
      refine g_drop (ev_callW (ew_rep1 (n := (ds.length : Int)) (eu_tup (ea_cons ev_c ea_nil) (by show 1 ≤ 100000; decide)) (Ev.int_eq (ev_lenT (ev_var rfl) (st_of ht0)) hlen) (by omega) (by omega)) (ea_cons (ev_var rfl) (ea_cons (ev_var rfl) ea_nil)) fun p G eG hp => spv_check (sqt_rep hp) (ex_t eG (st_of ht0)) gd (by omega) (by omega)) fun H1 e1 => ?_
      refine g_drop (ev_call (ea_cons (ev_var rfl) (ea_cons ev_c (ea_cons ev_c ea_nil))) (spv_num (by omega) (by omega))) fun H2 e2 => ?_
      refine g_asg2 ev_c fun H3 e3 => ?_
      refine g_asgL (xs := (List.replicate L (0 : Int)).map V.int) (el_isV (el_repR (el_lst (ea_cons ev_c ea_nil) (by show 1 ≤ 100000; decide)) (ev_var rfl) (by omega) (by omega)) (by simp)) fun p H4 np e4 hp => ?_
      have k4 := hk0.ex (((e1.trans e2).trans e3).trans e4)
      refine g_forR1 (n := (n : Int)) (ea_cons (ev_var rfl) ea_nil) ⟨by omega, by omega⟩ (fun i k σ' H' => k = i ∧ Knows (cnOf Z r dx td (RK.sol a m) ds) H' ∧ ∃ (p : Addr) (x7 x8 x9 x10 : Option V), H' p = some (.lst ((rst (RK.sol a m) ds L i).rc.map V.int)) ∧
        σ' = [some (.ref r), some (.ref td), some (.int (L : Int)), some (.int (n : Int)), some (.int (rst (RK.sol a m) ds L i).st), some (.int (rst (RK.sol a m) ds L i).so), some (.ref p), x7, x8, x9, x10]) (fun H5 e5 => ⟨rfl, k4.ex e5, p, _, _, _, _, e5 _ _ hp, rfl⟩) ?_ ?_
      · rintro i0 i σ' H' hi ⟨rfl, kn, p, x7, x8, x9, x10, hp, rfl⟩
        obtain ⟨hR, ht⟩ := knows_run kn hrd
        have hm := mod_nat i n0'
        refine g_asg (v := .int (dem ds i)) (ev_ixT (ev_var rfl) (st_of ht) (ev_op (ev_var rfl) (Ev.int_eq (ev_lenT (ev_var rfl) (st_of ht)) hlen) (rv_I (by show (0 : Int) < _; omega))) (by rw [atI_mapI hm.1 hm.2.1, hm.2.2]; rfl)) fun H1 e1 => ?_
        refine g_asg (v := .int (rbak (RK.sol a m) i (rst (RK.sol a m) ds L i))) (ev_meth (ev_var rfl) ⟨dx, _, (hR.mono e1).ins, rfl⟩ (ea_cons (ev_var rfl) (ea_cons (ev_var rfl) (ea_cons (ev_var rfl) ea_nil))) (spv_baked (hR.mono e1) trivial)) fun H2 e2 => ?_
        have hp2 := (e1.trans e2) _ _ hp
        refine g_asgL (xs := (rrec (RK.sol a m) i (rst (RK.sol a m) ds L i)).map V.int) (el_isV (el_catN (el_lst (ea_cons (ev_var rfl) ea_nil) (by show 1 ≤ 100000; decide)) (el_init (ev_var rfl) (sq_of hp2) (ev_un ev_c ru_neg)) (by rw [List.length_dropLast, List.length_map, rc_len hL0]; simp; omega)) (by simp [rrec, List.map_dropLast])) fun p2 H3 np2 e3 hp3 => ?_
        refine g_asg (v := .int (rsol (RK.sol a m) ds i (rst (RK.sol a m) ds L i))) (ev_min2 (ev_op (ev_var rfl) (ev_var rfl) rv_I0) (ev_var rfl)) fun H4 e4 => ?_
        refine g_asg (v := .int (rlef (RK.sol a m) ds i (rst (RK.sol a m) ds L i))) (ev_op (ev_op (ev_var rfl) (ev_var rfl) rv_I0) (ev_var rfl) rv_I0) fun H5 e5 => ?_
        have hp5 := (e4.trans e5) _ _ hp3
        refine g_asg (v := .int (rnew (RK.sol a m) ds i (rst (RK.sol a m) ds L i))) (ev_min2 (ev_var rfl) (ev_sumN (ns := (rrec (RK.sol a m) i (rst (RK.sol a m) ds L i)).dropLast) (el_isV (el_init (ev_var rfl) (sq_of hp5) (ev_un ev_c ru_neg)) (by rw [List.map_dropLast])))) fun H6 e6 => ?_
        have kn6 := kn.ex ((((e1.trans e2).trans e3).trans (e4.trans e5)).trans e6)
        refine g_yield (B := ⟨plOf P w K mg base n_run "run" (L2.defScope s_run) Z.f_run cdv Ar outer n0, cnOf Z r dx td (RK.sol a m) ds, (rrows (RK.sol a m) ds L n).map (·.map V.int), WK, CY, CE⟩) (row := (rrow (RK.sol a m) ds L i).map V.int) (xs := (rrec (RK.sol a m) i (rst (RK.sol a m) ds L i)).map V.int) (l := p2) (by show i < ((rrows (RK.sol a m) ds L n).map (·.map V.int)).length; rw [List.length_map, rrows_len]; omega)
          ?_ (rrows_get (by omega)) kn6 (e6 _ _ hp5) (new_out (kn.ex (e1.trans e2)) np2) fun G kG hG => ?_
        rotate_left
        · exact ⟨rfl, kG, p2, _, _, _, _, hG, rfl⟩
        exact eu_tup (ea_cons (ev_var rfl) (ea_cons (ev_var rfl) (ea_cons (ev_op (ev_var rfl) (ev_var rfl) rv_I0) (ea_cons (ev_op (ev_var rfl) (ev_var rfl) rv_I0) ea_nil)))) (by show 4 ≤ 100000; decide)
      · rintro k σ' H' ⟨hk, kn, _⟩
        exact ⟨by show k = ((rrows (RK.sol a m) ds L n).map (·.map V.int)).length; rw [List.length_map, rrows_len]; omega, kn⟩
end Sw
namespace Sw
open PySem PySem.Spec PyProof.Rows L2 Evl GnX
local macro_rules | `(tactic| walk_at "ev") => `(tactic| first
  | exact ev_c
  | exact ev_var rfl
  | ((with_reducible show Ev (tCB rMax2 _) _ _ _); exact ev_maxi (by walk_at "ev") (by walk_at "ev"))
  | ((with_reducible show Ev (tCB rMn _) _ _ _); exact ev_min2 (by walk_at "ev") (by walk_at "ev"))
  | ((with_reducible show Ev (tUn _ _) _ _ _); exact ev_un (by walk_at "ev") ru_neg)
  | ((with_reducible show Ev (tFld _ _ _) _ _ _); exact ev_fldK (by walk_at "ev") (by assumption))
  | ((with_reducible show Ev (tOp (rI0 _) _ _) _ _ _); exact ev_op (by walk_at "ev") (by walk_at "ev") rv_I0)
  | ((with_reducible show Ev (tOp rEq _ _) _ _ _); exact ev_op (by walk_at "ev") (by walk_at "ev") (rv_eq rfl))
  | ((with_reducible show Ev (tOp rNe _ _) _ _ _); exact ev_op (by walk_at "ev") (by walk_at "ev") (rv_ne rfl)))

/-! ### outcome -/
section
variable {K : PySem.W.Frag} {D : Ends} {σ : L2.St} {H : Hp} {te : TE} {t ta : TA} {tb tz : TS} {g : L2.TG} {x y : V} {xs ys vs : List V} {a b : Addr} {cn : Kn} {rows : List (List V)} {sp : SpGn}
theorem wipe_pair {j1 j2 : Nat} (hne : j1 ≠ j2) (x y : V) : wipe (((wipe σ [j1, j2]).set j1 (some x)).set j2 (some y)) [j1, j2] = wipe σ [j1, j2] := by
  simp only [wipe]
  rw [List.set_set, List.set_set, List.set_comm _ _ hne, List.set_set, List.set_set]
theorem walk_zM (lx : xs.length = ys.length) : Walk (ItzM K a b) xs.length (fun H => SqL K H a xs ∧ SqT K H b ys) (YPair (fun i => xs[i]?) (fun i => ys[i]?)) := by
  refine ⟨fun i _ hi q => ⟨xs, ys, xs[i]'(by omega), ys[i]'(by omega), q.1, q.2, by simp, by simp⟩, fun _ q => ⟨xs, ys, q.1, q.2, by omega, by omega⟩, fun i H v H' _ q h => ?_⟩
  obtain ⟨T, x, y, h1, h2, h3, h4, h5⟩ := h
  exact ⟨T, x, y, h1, h2, h3, h4 xs q.1, h5 ys q.2⟩
theorem eu_tupLV (h : Ev te σ H (.ref a)) (hx : H a = some (.lst xs)) : EvU (tCB (rTupS K) (tCons te tNil)) σ H xs := fun H1 e Q q =>
  h H1 e _ fun H2 e2 => ⟨a, xs, rfl, .inl ⟨sq_of (e2 _ _ (e _ _ hx)), fun l hl => q l _ (fresh_back e2 hl) (e2.trans (Ex.new hl)) upd_same⟩⟩
/-- [e for x, y in zip(list, tuple)] -/
theorem el_lcZt {j1 j2 : Nat} (hne : j1 ≠ j2) (h : EvA t σ H [.ref a, .ref b]) (hx : SqL K H a xs) (hy : SqT K H b ys) (hl : xs.length = ys.length) (hz : xs.length ≤ 40000) (v : Nat → V)
    (he : ∀ (i : Nat) x y H1, Ex H H1 → xs[i]? = some x → ys[i]? = some y → Ev te (((wipe σ [j1, j2]).set j1 (some x)).set j2 (some y)) H1 (v i)) :
    EvL (tLc (iZipM K t) (gTup K 2 (gCons (gName j1) (gCons (gName j2) gNil))) tYes te [j1, j2]) σ H ((List.range xs.length).map v) := fun H0 e0 Q q =>
  h H0 e0 _ fun H1 e1 => ⟨a, b, xs, ys, rfl, ex_l (e0.trans e1) hx, ex_t (e0.trans e1) hy, fun Dl hD => by
    have e01 := e0.trans e1
    rw [← given_all] at q
    refine lc_it (walk_zM (K := K) (a := a) (b := b) (xs := xs) (ys := ys) hl) (Cw H1 (fun _ => true) v Dl) ⟨hD, Ex.new hD, upd_same⟩ (fun i H' _ p => ⟨ex_l (e01.trans p.2.1) hx, ex_t (e01.trans p.2.1) hy⟩) (fun i w H' H2 hi p y => ?_) (fun H' p => q Dl H' (fresh_back e1 p.1) (e1.trans p.2.1) p.2.2)
    obtain ⟨T, x, y, rfl, hT, rfl, q1, q2⟩ := y
    have p' : Cw H1 (fun _ => true) v Dl i (upd H' T (.tup [x, y])) := ⟨p.1, p.2.1.trans (Ex.new hT), (Ex.new hT) _ _ p.2.2⟩
    refine ⟨T, [x, y], rfl, st_of upd_same, rfl, _, _, rfl, _, _, rfl, rfl, wipe_pair hne _ _, ?_⟩
    exact cw_turn p' (by omega) et_yes (fun _ => he i x y H1 e01 q1 q2)⟩
theorem q_forGn (h : EvA ta σ H vs) (hs : ∀ H1, Ex H H1 → sp vs H1 cn rows) (W : Nat → L2.St → Hp → Prop) (h0 : ∀ H1, Ex H H1 → W 0 σ H1) (hk : ∀ j σ H, W j σ H → Knows cn H)
    (st : ∀ j row σ H, rows[j]? = some row → W j σ H → ∀ p, H p = none → g (.ref p) σ (upd H p (.tup row)) fun σ2 H2 => tb { D with nx := W (j + 1), ct := W (j + 1), bk := tz D } σ2 H2) (fin : ∀ σ H, W rows.length σ H → tz D σ H) : tSeq (tForGn (tCallGn sp [] ta) g tb) tz D σ H :=
  h H (Ex.refl _) _ fun H1 e => ⟨cn, rows, by rw [List.append_nil]; exact hs H1 e, W, h0 H1 e, hk, st, fin⟩
/-- [x for x in run(..)]: the rows, each a new tuple -/
theorem el_lcGn {j : Nat} {v0 : Nat} (h : EvA ta σ H vs) (hs : ∀ H1, Ex H H1 → sp vs H1 cn rows) (kn : Knows cn H) (hw : ∀ x, wipe ((wipe σ [j]).set j (some x)) [j] = wipe σ [j]) (hj : j < σ.length) (hz : rows.length ≤ 40000) {Q : VK}
    (q : ∀ (D : Addr) (ps : List Addr) H2, H D = none → Ex H H2 → H2 D = some (.lst (ps.map V.ref)) → ps.length = rows.length → (∀ (i : Nat) p row, ps[i]? = some p → rows[i]? = some row → H2 p = some (.tup row)) → Q (.ref D) H2) :
    tLcGn (tCallGn sp [] ta) (gName j) (tVar j) [j] σ H Q :=
  h H (Ex.refl _) _ fun H1 e => ⟨cn, rows, by rw [List.append_nil]; exact hs H1 e, fun D hD => by
    have nD : H D = none := fresh_back e hD
    refine ⟨fun i H' => Ex H1 H' ∧ ∃ ps : List Addr, H' D = some (.lst (ps.map V.ref)) ∧ ps.length = i ∧ ∀ (k : Nat) p row, ps[k]? = some p → rows[k]? = some row → H' p = some (.tup row) ∧ p ≠ D, ⟨Ex.new hD, [], upd_same, rfl, fun k p row hp => by simp at hp⟩, fun i H' z => kn.ex (e.trans z.1), fun i row H' hrow ⟨eH, ps, hL, hl, hp⟩ p np => ?_, fun H' ⟨eH, ps, hL, hl, hp⟩ => q D ps H' nD (e.trans eH) hL hl fun k p row a b => (hp k p row a b).1⟩
    refine ⟨hw _, ?_⟩
    have hjl : j < (wipe σ [j]).length := by rw [wipe_length]; exact hj
    refine ⟨.ref p, by rw [List.getElem?_set_self hjl], ps.map V.ref, (Ex.new np) _ _ hL, by rw [List.length_map, hl]; have := (List.getElem?_eq_some_iff.mp hrow).1; rw [sizeLine_eq]; omega, ?_, ps ++ [p], by rw [upd_same, List.map_append]; rfl, by rw [List.length_append, hl]; rfl, fun k p' row' a b => ?_⟩
    · intro b o hb
      have hb2 := (Ex.new (o := .tup row) np) b o (eH b o hb)
      rw [upd_ne (fun z => by rw [z, hD] at hb; cases hb)]
      exact hb2
    · have pD : p ≠ D := fun z => by rw [z, hL] at np; cases np
      by_cases hk : k < ps.length
      · rw [List.getElem?_append_left hk] at a
        obtain ⟨h1, h2⟩ := hp k p' row' a b
        refine ⟨?_, h2⟩
        rw [upd_ne h2]
        exact (Ex.new np) _ _ h1
      · have hk2 : k = ps.length := by
          have := (List.getElem?_eq_some_iff.mp a).1
          rw [List.length_append] at this
          simp at this
          omega
        rw [hk2, List.getElem?_append_right (Nat.le_refl _), Nat.sub_self] at a
        have e1 : p = p' := by simpa using a
        subst e1
        rw [hk2, hl, hrow] at b
        cases b
        refine ⟨?_, pD⟩
        rw [upd_ne pD, upd_same]⟩
end
def cols (rk : RK) (ds : List Int) (L n : Nat) : List Int := [rcol rk ds L n 0, rcol rk ds L n 1, rcol rk ds L n 2, rcol rk ds L n 3]
theorem cols_zero {rk : RK} {ds : List Int} {L : Nat} : cols rk ds L 0 = [0, 0, 0, 0] := rfl
theorem cols_succ {rk : RK} {ds : List Int} {L n i : Nat} (hi : i < 4) : (cols rk ds L (n + 1)).getD i 0 = (cols rk ds L n).getD i 0 + (rrow rk ds L n).getD i 0 := by
  match i, hi with
  | 0, _ => rfl
  | 1, _ => rfl
  | 2, _ => rfl
  | 3, _ => rfl
theorem cols_len {rk : RK} {ds : List Int} {L n : Nat} : (cols rk ds L n).length = 4 := rfl
theorem cols_range {rk : RK} {ds : List Int} {L n : Nat} : (List.range 4).map (fun i => V.int ((cols rk ds L n).getD i 0)) = (cols rk ds L n).map V.int := rfl
def sp_outcome (Z : Ad) : Sp := fun vs H Q _ => ∃ (r dx td : Addr) (rk : RK) (ds : List Int) (L n : Nat), vs = [.ref r, .ref td, .int (L : Int), .int (n : Int)] ∧ RuleR Z H r dx rk ∧ rk.ok ∧ H td = some (.tup (ds.map V.int)) ∧ 0 < ds.length ∧ ds.length ≤ 24 ∧ (∀ x ∈ ds, 0 ≤ x ∧ x ≤ 1000000000) ∧ 1 ≤ L ∧ L ≤ 30 ∧ n ≤ 10000 ∧
  RetU ((cols rk ds L n).map V.int) H Q
variable {P : Program} {w : World} {K : PySem.W.Frag} {mg : Str → Option Value} {base : Heap} {Z : Ad}
theorem ok_outcome (T : Txt K mg Z) : FnOk P w K mg base CX0 7 Z.f_outcome Z.d_outcome p_outcome (sp_outcome Z) := by
  refine T.F_outcome.ok sc_outcome (fun vs H Q E h => ?_) (fun cdv Ar outer s H vs Q E hr h => ?_)
  · obtain ⟨r, dx, td, rk, ds, L, n, rfl, _⟩ := h
    rfl
  · obtain ⟨r, dx, td, rk, ds, L, n, rfl, hR, hok, htd, n0', n1, hd, hL0, hL1, hn, k⟩ := h
    refine ⟨_, (pss_cons (ps_set (i := 4) sc_outcome.nd rfl (Or.inl rfl) (pe_op op_rep (pe_lst (pa_cons pe_int pa_nil)) pe_int))
      (pss_cons (GnX.ps_forGn PassesOwn.never (fun _ _ _ z _ => z) rfl (hr.mono (by decide)) (GnX.pgn_call (ok_run T) (hr.mono (by decide)) (by rfl) T.g_run T.F_run.kp T.b_run .nil (pa_cons (pv 0) (pa_cons (pv 1) (pa_cons (pv 2) (pa_cons (pv 3) pa_nil))))) (pg_name (i := 5) sc_outcome.nd rfl (Or.inl rfl)) (pss_one (ps_setLc (i := 4) (own := [("total", 6), ("number", 7)]) rfl sc_outcome.nd rfl rfl (sw_true rfl rfl rfl (by decide +kernel)) (pi_zipM K rfl (by rfl) T.b_zip (pa_cons (pv 4) (pa_cons (pv 5) pa_nil))) (blkOk_by (own := [("total", 6), ("number", 7)]) (N := n_outcome) (sc := defScope s_outcome) (scope := { kind := PySem.ScopeKind.function, names := [ (PySem.Str.ofString ".0", PySem.NameKind.local), (PySem.Str.ofString "total", PySem.NameKind.local), (PySem.Str.ofString "number", PySem.NameKind.local)], isGenerator := false, isCoroutine := false, more := [] : PySem.Scope }) (by decide +kernel)) (fun _ _ _ _ _ => (by exact (pg_tupK K (n := 2) rfl rfl (pgs_cons (pg_name (i := 6) sc_outcome.nd rfl (Or.inl rfl)) (pgs_cons (pg_name (i := 7) sc_outcome.nd rfl (Or.inl rfl)) pgs_nil))))) (fun _ _ _ _ _ => pts_nil) (fun _ _ _ _ _ => (pe_op op_add (pv 6) (pv 7))))))
      (pss_one (ps_ret (pe_callTy (r := rTupS K) (call_tuple_of) (by rfl) T.b_tuple boot_tuple (pa_cons (pv 4) pa_nil)))))), ?_⟩
    refine q_asgL (xs := (cols rk ds L 0).map V.int) (el_isV (el_repR (el_lst (ea_cons ev_c ea_nil) (by show 1 ≤ 100000; decide)) ev_c (by decide) (by decide)) rfl) fun p H1 np e1 hp => ?_
    refine q_forGn (cn := cnOf Z r dx td rk ds) (rows := (rrows rk ds L n).map (·.map V.int)) (ea_cons (ev_var rfl) (ea_cons (ev_var rfl) (ea_cons (ev_var rfl) (ea_cons (ev_var rfl) ea_nil)))) (fun H2 e2 => ⟨r, dx, td, rk, ds, L, n, rfl, hR.mono (e1.trans e2), hok, (e1.trans e2) _ _ htd, n0', n1, hd, hL0, hL1, hn, rfl, rfl⟩)
      (fun j σ' H' => Ex H H' ∧ ∃ (p : Addr) (x5 x6 x7 : Option V), σ' = [some (.ref r), some (.ref td), some (.int (L : Int)), some (.int (n : Int)), some (.ref p), x5, x6, x7] ∧ H p = none ∧ H' p = some (.lst ((cols rk ds L j).map V.int))) (fun H2 e2 => ⟨e1.trans e2, p, _, _, _, rfl, np, e2 _ _ hp⟩) (fun j σ' H' z => (knows_cn hR htd).ex z.1) ?_ ?_
    · rintro j row σ' H' hrow ⟨eH, p, x5, x6, x7, rfl, np, hp⟩ q nq
      have hj : j < n := by
        have z := (List.getElem?_eq_some_iff.mp hrow).1
        rw [List.length_map, rrows_len] at z; exact z
      rw [rrows_get hj] at hrow
      obtain rfl := Option.some.inj hrow
      have eq := Ex.new (o := .tup ((rrow rk ds L j).map V.int)) nq
      refine s_asgL (xs := (cols rk ds L (j + 1)).map V.int) (el_isV (el_lcZt (K := K) (a := p) (b := q) (xs := (cols rk ds L j).map V.int) (ys := (rrow rk ds L j).map V.int) (by decide) (ea_cons (ev_var rfl) (ea_cons (ev_var rfl) ea_nil)) (sq_of (eq _ _ hp)) (st_of upd_same) (by simp [cols_len]; rfl) (by rw [List.length_map, cols_len]; decide) (fun i => V.int ((cols rk ds L (j + 1)).getD i 0)) (fun i x y H2 e2 hx hy => ?_)) ?_) fun p2 H3 np2 e3 hp3 => ?_
      · obtain ⟨rfl, h1⟩ := at_map hx
        obtain ⟨rfl, h2⟩ := at_map hy
        rw [cols_len] at h1
        exact Ev.int_eq (ev_op (ev_var rfl) (ev_var rfl) rv_I0) (cols_succ h1).symm
      · rw [List.length_map, cols_len]; exact cols_range
      · exact ⟨(eH.trans eq).trans e3, p2, _, _, _, rfl, fresh_back (eH.trans eq) np2, hp3⟩
    · rintro σ' H' ⟨eH, p, x5, x6, x7, rfl, np, hp⟩
      rw [List.length_map, rrows_len] at hp
      exact s_retU (eu_tupLV (ev_var rfl) hp) fun q H2 nq e2 hq => k q H2 (fresh_back eH nq) (eH.trans e2) hq
end Sw
namespace Sw
open PySem PySem.Spec PyProof.Rows L2 Evl GnX
local macro_rules | `(tactic| walk_at "ev") => `(tactic| first
  | exact ev_c
  | exact ev_var rfl
  | ((with_reducible show Ev (tCB rMax2 _) _ _ _); exact ev_maxi (by walk_at "ev") (by walk_at "ev"))
  | ((with_reducible show Ev (tCB rMn _) _ _ _); exact ev_min2 (by walk_at "ev") (by walk_at "ev"))
  | ((with_reducible show Ev (tUn _ _) _ _ _); exact ev_un (by walk_at "ev") ru_neg)
  | ((with_reducible show Ev (tFld _ _ _) _ _ _); exact ev_fldK (by walk_at "ev") (by assumption))
  | ((with_reducible show Ev (tOp (rI0 _) _ _) _ _ _); exact ev_op (by walk_at "ev") (by walk_at "ev") rv_I0)
  | ((with_reducible show Ev (tOp rEq _ _) _ _ _); exact ev_op (by walk_at "ev") (by walk_at "ev") (rv_eq rfl))
  | ((with_reducible show Ev (tOp rNe _ _) _ _ _); exact ev_op (by walk_at "ev") (by walk_at "ev") (rv_ne rfl)))

/-! ### rules are made -/
variable {P : Program} {w : World} {K : PySem.W.Frag} {mg : Str → Option Value} {base : Heap} {Z : Ad}
theorem ok_SoldRule___init__ (T : Txt K mg Z) (hP : P = Z.P) : FnOk P w K mg base CX0 5 Z.f_SoldRule___init__ Z.d_SoldRule___init__ p_SoldRule___init__ (sp_Rinit Z isSol mkSol) := by
  subst hP
  refine sup_own (k := 4) (CX := CX0) T.su_SoldRule___init__ (fnR_of (ok_Rule___init__ T) T.b_Rule___init__) rfl sc_SoldRule___init__ rfl rfl rfl rfl T.b_super (fun _ => rfl) (fun _ _ => rfl) (fun _ => rfl) (fun vs H Q E h => ?_) (fun A outer s H vs Q E hr h => ?_)
  · obtain ⟨x, dx, ws, rk, rfl, ⟨a, m, rfl, _⟩, _⟩ := h
    rfl
  · obtain ⟨x, dx, ws, rk, rfl, ⟨a, m, rfl, rfl⟩, _, ⟨a0, a1, m0, m1⟩, hx, k⟩ := h
    refine ⟨_, _, x, dx, [], _, pa_cons (pv 1) pa_nil, (pss_cons (ps_expr (pe_call (ok_check_part T) (hr.mono (by decide)) (by rfl) T.g_check_part T.F_check_part.kp T.b_check_part .nil pass0 (pa_cons pe_str (pa_cons (pv 2) (pa_cons (pe_un un_neg (pe_glob (v := .int 1000000000) (by rfl) T.g_MOST_LOAVES ⟨_, rfl⟩)) pa_nil)))))
      (pss_one (ps_fld (pv 0) (pv 2) rfl))), rfl, hx, ?_⟩
    refine ⟨.int a, rfl, x, dx, Z.c_SoldRule, a, rfl, .inr rfl, a0, a1, hx, fun H1 h1 al1 => ?_⟩
    refine q_drop (ev_call (ea_cons ev_c (ea_cons (ev_var rfl) (ea_cons (ev_un ev_c ru_neg) ea_nil))) (spv_part (by omega) m1)) fun H2 e2 => ?_
    exact s_fld (ev_var rfl) (fun _ _ => ev_var rfl) (e2 _ _ h1) T.cl_SoldRule T.na_SoldRule__more (by show 1 < 1000; decide) fun H3 e3 => k _ upd_same fun b o hb hne => by rw [upd_ne hne]; exact e3 b o (e2 b o (al1 b o hb hne))
/-- a new rule -/
def EvRu (Z : Ad) (te : TE) (σ : L2.St) (H : Hp) (rk : RK) : Prop := ∀ H1, Ex H H1 → ∀ Q : VK, (∀ r dx H2, H1 r = none → Ex H1 H2 → RuleR Z H2 r dx rk → Q (.ref r) H2) → te σ H1 Q
section
variable {σ : L2.St} {H : Hp} {t tk : TA} {E : XK} {a g m : Int}
theorem made_ex {H1 H3 : Hp} {x dx C : Addr} (hx : H1 x = none) (hd : H1 dx = none) (al : ∀ b o, (upd (upd H1 dx (.own x)) x (.ins C dx [])) b = some o → b ≠ x → H3 b = some o) : Ex H1 H3 := fun b o hb => by
  have n1 : b ≠ x := fun z => by rw [z, hx] at hb; cases hb
  have n2 : b ≠ dx := fun z => by rw [z, hd] at hb; cases hb
  exact al b o (by rw [upd_ne n1, upd_ne n2]; exact hb) n1
theorem made_own {H1 H3 : Hp} {x dx C : Addr} (hne : dx ≠ x) (al : ∀ b o, (upd (upd H1 dx (.own x)) x (.ins C dx [])) b = some o → b ≠ x → H3 b = some o) : H3 dx = some (.own x) := al dx _ (by rw [upd_ne hne, upd_same]) hne
theorem er_fix (h : EvA t σ H [.int a]) (a0 : 0 ≤ a) (a1 : a ≤ 1000000000) : EvRu Z (tMake Z.c_Rule (sp_Rule Z) [] E t) σ H (.fix a) := fun H1 e Q q => h H1 e _ fun H2 e2 x dx hx hd hne =>
  ⟨x, dx, Z.c_Rule, a, rfl, .inl rfl, a0, a1, upd_same, fun H3 h3 al => ⟨rfl, q x dx H3 (fresh_back e2 hx) (e2.trans (made_ex hx hd al)) ⟨h3, made_own hne al⟩⟩⟩
theorem er_ref (h : EvA t σ H [.int g]) (a0 : 0 ≤ g) (a1 : g ≤ 1000000000) : EvRu Z (tMake Z.c_RefillRule (sp_Rinit Z isRef mkRef) [] E t) σ H (.ref g) := fun H1 e Q q => h H1 e _ fun H2 e2 x dx hx hd hne =>
  ⟨x, dx, [.int g], .ref g, rfl, ⟨g, rfl, rfl⟩, trivial, ⟨a0, a1⟩, upd_same, fun H3 h3 al => ⟨rfl, q x dx H3 (fresh_back e2 hx) (e2.trans (made_ex hx hd al)) ⟨h3, made_own hne al⟩⟩⟩
theorem er_sol (h : EvA t σ H [.int a]) (hk : EvA tk σ H [.int m]) (a0 : 0 ≤ a) (a1 : a ≤ 1000000000) (m0 : -1000000000 ≤ m) (m1 : m ≤ 1000000000) : EvRu Z (tMakeK Z.c_SoldRule 1 1 (sp_Rinit Z isSol mkSol) (fun vs zs => vs ++ zs) E t tk) σ H (.sol a m) := fun H1 e Q q => h H1 e _ fun H2 e2 => hk H2 (e.trans e2) _ fun H3 e3 => ⟨rfl, rfl, fun x dx hx hd hne =>
  ⟨x, dx, [.int a, .int m], .sol a m, rfl, ⟨a, m, rfl, rfl⟩, trivial, ⟨a0, a1, m0, m1⟩, upd_same, fun H4 h4 al => ⟨rfl, q x dx H4 (fresh_back (e2.trans e3) hx) ((e2.trans e3).trans (made_ex hx hd al)) ⟨h4, made_own hne al⟩⟩⟩⟩
end
end Sw
namespace Sw
open PySem PySem.Spec PyProof.Rows L2 Evl GnX
local macro_rules | `(tactic| walk_at "ev") => `(tactic| first
  | exact ev_c
  | exact ev_var rfl
  | ((with_reducible show Ev (tCB rMax2 _) _ _ _); exact ev_maxi (by walk_at "ev") (by walk_at "ev"))
  | ((with_reducible show Ev (tCB rMn _) _ _ _); exact ev_min2 (by walk_at "ev") (by walk_at "ev"))
  | ((with_reducible show Ev (tUn _ _) _ _ _); exact ev_un (by walk_at "ev") ru_neg)
  | ((with_reducible show Ev (tFld _ _ _) _ _ _); exact ev_fldK (by walk_at "ev") (by assumption))
  | ((with_reducible show Ev (tOp (rI0 _) _ _) _ _ _); exact ev_op (by walk_at "ev") (by walk_at "ev") rv_I0)
  | ((with_reducible show Ev (tOp rEq _ _) _ _ _); exact ev_op (by walk_at "ev") (by walk_at "ev") (rv_eq rfl))
  | ((with_reducible show Ev (tOp rNe _ _) _ _ _); exact ev_op (by walk_at "ev") (by walk_at "ev") (rv_ne rfl)))

section
variable {K : PySem.W.Frag} {Z : Ad} {σ : L2.St} {H H' : Hp} {ta tb tc te t1 t2 t3 : TE} {v : V} {h l p pd : Addr} {ns as bs ds : List Int} {life : Int} {A B C : Int → Prop} {D : Ends} {tz tu : TS} {xs : List V} {t tk : TA} {E : XK} {rk : RK} {L n : Nat}
theorem xi_dr {cells : List Int} {n : Int} {E : XK} (hc : SqL K (wn H (hl h l)) l (cells.map V.int)) (ha : ∀ G, Ev ta σ G (.ref h)) (hb : EvI tb σ H h l (fun i => i = n)) (p0 : 0 < n) (p1 : n ≤ 1000000000000000000) : EvI (tCall (sp_drawn K) [] E (tCons ta (tCons tb tNil))) σ H h l (fun v => 0 ≤ v ∧ v < n) :=
  (xi_drawn hc ha hb (fun i e => by subst e; exact ⟨p0, p1⟩)).imp fun v q => ⟨q.1, by obtain ⟨j, ej, zj⟩ := q.2; omega⟩
theorem xi_drA {cells : List Int} {n : Int} {E : XK} (hc : SqL K (wn H (hl h l)) l (cells.map V.int)) (ha : ∀ G, Ev ta σ G (.ref h)) (hb : EvI tb σ H h l A) (hA : ∀ i, A i → 0 < i ∧ i ≤ n) (p1 : n ≤ 1000000000000000000) : EvI (tCall (sp_drawn K) [] E (tCons ta (tCons tb tNil))) σ H h l (fun v => 0 ≤ v ∧ v < n) :=
  (xi_drawn hc ha hb (fun i e => by have := hA i e; omega)).imp fun v q => ⟨q.1, by obtain ⟨j, ej, zj⟩ := q.2; have := hA j ej; omega⟩
theorem st_wn (hs : HS H h l) (hp : SqT K H p xs) : SqT K (wn H (hl h l)) p xs := by
  rcases hp with (z | ⟨u, z⟩) | z
  · exact .inl (.inl (by rw [wn_ni (hl_kind hs z (fun _ q => nomatch q))]; exact z))
  · exact .inl (.inr ⟨u, by rw [wn_ni (hl_kind hs z (fun _ q => nomatch q))]; exact z⟩)
  · exact .inr z
theorem ru_wn {r dx : Addr} (hs : HS H h l) (hp : RuleR Z H r dx rk) : RuleR Z (wn H (hl h l)) r dx rk :=
  ⟨by rw [wn_ni (hl_kind hs hp.ins (fun _ q => nomatch q))]; exact hp.ins, by rw [wn_ni (hl_kind hs hp.own (fun _ q => nomatch q))]; exact hp.own⟩
theorem ru_of {r dx : Addr} {N : Addr → Prop} (hp : RuleR Z (wn H N) r dx rk) : RuleR Z H r dx rk := hp.mono wn_ex
/-! ### rules as arguments -/
def EvAr (Z : Ad) (t : TA) (σ : L2.St) (H : Hp) (rk : RK) (td : Addr) (L n : Nat) : Prop := ∀ H1, Ex H H1 → ∀ Q : List V → Hp → Prop, (∀ r dx H2, Ex H1 H2 → RuleR Z H2 r dx rk → Q [.ref r, .ref td, .int (L : Int), .int (n : Int)] H2) → t σ H1 Q
theorem EvAr.mono (e : Ex H H') (x : EvAr Z t σ H rk p L n) : EvAr Z t σ H' rk p L n := fun H1 e1 => x H1 (e.trans e1)
theorem ear_new {t4 : TE} (hr : EvRu Z t1 σ H rk) (h2 : ∀ G, Ev t2 σ G (.ref pd)) (h3 : ∀ G, Ev t3 σ G (.int (L : Int))) (h4 : ∀ G, Ev t4 σ G (.int (n : Int))) : EvAr Z (tCons t1 (tCons t2 (tCons t3 (tCons t4 tNil)))) σ H rk pd L n := fun H1 e Q q =>
  hr H1 e _ fun r dx H2 _ e2 hR => h2 H2 H2 (Ex.refl _) _ fun H3 e3 => h3 H3 H3 (Ex.refl _) _ fun H4 e4 => h4 H4 H4 (Ex.refl _) _ fun H5 e5 => q r dx H5 ((e2.trans e3).trans (e4.trans e5)) (hR.mono (e3.trans (e4.trans e5)))
theorem ear_var {r dx : Addr} {t4 : TE} (h1 : ∀ G, Ev t1 σ G (.ref r)) (hR : RuleR Z H r dx rk) (h2 : ∀ G, Ev t2 σ G (.ref pd)) (h3 : ∀ G, Ev t3 σ G (.int (L : Int))) (h4 : ∀ G, Ev t4 σ G (.int (n : Int))) : EvAr Z (tCons t1 (tCons t2 (tCons t3 (tCons t4 tNil)))) σ H rk pd L n := fun H1 e Q q =>
  h1 H1 H1 (Ex.refl _) _ fun H2 e2 => h2 H2 H2 (Ex.refl _) _ fun H3 e3 => h3 H3 H3 (Ex.refl _) _ fun H4 e4 => h4 H4 H4 (Ex.refl _) _ fun H5 e5 => q r dx H5 ((e2.trans e3).trans (e4.trans e5)) (hR.mono (((e.trans e2).trans e3).trans (e4.trans e5)))
/-- what is asked of the demands, the life, the days -/
structure DemOk (H : Hp) (pd : Addr) (ds : List Int) (L n : Nat) : Prop where
  td : H pd = some (.tup (ds.map V.int))
  n0 : 0 < ds.length
  n1 : ds.length ≤ 24
  d0 : ∀ x ∈ ds, 0 ≤ x ∧ x ≤ 1000000000
  l0 : 1 ≤ L
  l1 : L ≤ 30
  nn : n ≤ 10000
theorem DemOk.mono (e : Ex H H') (x : DemOk H pd ds L n) : DemOk H' pd ds L n := ⟨e _ _ x.td, x.n0, x.n1, x.d0, x.l0, x.l1, x.nn⟩
theorem run_sp (x : DemOk H pd ds L n) (ok : rk.ok) {r dx : Addr} {H1 : Hp} (e : Ex H H1) (hR : RuleR Z H1 r dx rk) : sp_run Z [.ref r, .ref pd, .int (L : Int), .int (n : Int)] H1 (cnOf Z r dx pd rk ds) ((rrows rk ds L n).map (·.map V.int)) :=
  ⟨r, dx, pd, rk, ds, L, n, rfl, hR, ok, e _ _ x.td, x.n0, x.n1, x.d0, x.l0, x.l1, x.nn, rfl, rfl⟩
theorem eu_out (ha : EvAr Z t σ H rk pd L n) (x : DemOk H pd ds L n) (ok : rk.ok) : EvU (tCall (sp_outcome Z) [] E t) σ H ((cols rk ds L n).map V.int) := fun H1 e Q q =>
  ha H1 e _ fun r dx H2 e2 hR => ⟨r, dx, pd, rk, ds, L, n, rfl, hR, ok, (e.trans e2) _ _ x.td, x.n0, x.n1, x.d0, x.l0, x.l1, x.nn, fun p H3 np e3 hp => q p H3 (fresh_back e2 np) (e2.trans e3) hp⟩
theorem q_forRun {g : L2.TG} (ha : EvAr Z t σ H rk pd L n) (x : DemOk H pd ds L n) (ok : rk.ok) (W : Nat → L2.St → Hp → Prop) (h0 : ∀ H1, Ex H H1 → W 0 σ H1)
    (st : ∀ j σ H' (M : Hp → Prop), (∀ G, Ex H' G → M G) → j < n → W j σ H' → ∀ p, H' p = none → g (.ref p) σ (upd H' p (.tup ((rrow rk ds L j).map V.int))) fun σ2 H2 => tu { D with nx := fun σ' G => W (j + 1) σ' G ∧ M G, ct := fun σ' G => W (j + 1) σ' G ∧ M G, bk := tz D } σ2 H2)
    (fin : ∀ σ H, W n σ H → tz D σ H) : tSeq (tForGn (tCallGn (sp_run Z) [] t) g tu) tz D σ H :=
  ha H (Ex.refl _) _ fun r dx H1 e hR => by
    have hS := run_sp x ok e hR
    refine ⟨cnOf Z r dx pd rk ds, (rrows rk ds L n).map (·.map V.int), by rw [List.append_nil]; exact hS, fun j σ' H' => W j σ' H' ∧ Knows (cnOf Z r dx pd rk ds) H', ⟨h0 H1 e, knows_cn hR (e _ _ x.td)⟩, fun _ _ _ z => z.2, fun j row σ' H' hrow z p np => ?_, fun σ' H' z => ?_⟩
    · have hj : j < n := by
        have q := (List.getElem?_eq_some_iff.mp hrow).1
        rw [List.length_map, rrows_len] at q; exact q
      rw [rrows_get hj] at hrow
      obtain rfl := Option.some.inj hrow
      exact st j σ' H' (Knows (cnOf Z r dx pd rk ds)) (fun G eG => z.2.ex eG) hj z.1 p np
    · have z := z
      rw [List.length_map, rrows_len] at z
      exact fin σ' H' z.1
theorem q_asgW {i : Nat} (h : EvW K te σ H xs) (k : ∀ p H1, Ex H H1 → SqT K H1 p xs → tz D (σ.set i (some (.ref p))) H1) : tSeq (tAsg te (gName i)) tz D σ H := h H (Ex.refl _) _ fun p H1 e hp => k p H1 e hp
/-- a new rule, while cells are drawn -/
def RuP (Z : Ad) (kind : RK → Prop) : V → Hp → Prop := fun v G => ∃ r dx rk, v = .ref r ∧ kind rk ∧ RuleR Z G r dx rk
theorem x_ru (hr : ∀ G, Ex (wn H (hl h l)) G → EvRu Z te σ G rk) {kind : RK → Prop} (hk : kind rk) : EvX te σ H h l (RuP Z kind) := fun H1 d Q q =>
  hr H1 (d.ex.trans wn_ex) H1 (Ex.refl _) Q fun r dx H2 _ e2 hR => by
    have d2 := Dr.of d.hs e2
    exact q _ H2 d2 ⟨r, dx, rk, rfl, hk, ru_wn d2.hs hR⟩
theorem x_ruI {A : Int → Prop} {kind : RK → Prop} (ha : EvI ta σ H h l A) (hA : ∀ g, A g → 0 ≤ g ∧ g ≤ 1000000000 ∧ kind (.ref g)) : EvX (tMake Z.c_RefillRule (sp_Rinit Z isRef mkRef) [] E (tCons ta tNil)) σ H h l (RuP Z kind) := fun H1 d Q q =>
  ha H1 d _ fun v H2 d2 ⟨g, e, hg⟩ => by
    subst e
    obtain ⟨g0, g1, hk⟩ := hA g hg
    have z := er_ref (Z := Z) (σ := [some (.int g)]) (H := H2) (E := E) (t := tCons (tVar 0) tNil) (ea_cons (ev_var rfl) ea_nil) g0 g1 H2 (Ex.refl _) Q fun r dx H3 _ e3 hR => by
      have d3 := Dr.of d2.hs e3
      exact q _ H3 (d2.trans d3) ⟨r, dx, .ref g, rfl, hk, ru_wn d3.hs hR⟩
    dsimp only [tMake, tCons, tNil] at z
    obtain ⟨v1, r1, z⟩ := z
    cases r1
    exact z
end
variable {P : Program} {w : World} {K : PySem.W.Frag} {mg : Str → Option Value} {base : Heap} {Z : Ad}
def sp_lawamounts (K : PySem.W.Frag) : Sp := fun vs H Q _ => ∃ (h l : Addr) (cells : List Int) (count high : Int), vs = [.ref h, .int count, .int high] ∧ 0 ≤ count ∧ count ≤ 1000 ∧ 0 ≤ high ∧ high ≤ 1000000000 ∧ HS H h l ∧ SqL K (wn H (hl h l)) l (cells.map V.int) ∧
  ∀ (p : Addr) (ns : List Int) (H' : Hp), Dr h l H H' → wn H' (hl h l) p = some (.tup (ns.map V.int)) → (ns.length : Int) = count → (∀ x ∈ ns, 0 ≤ x ∧ x ≤ high) → Q (.ref p) H'
theorem ok__law_amounts (T : Txt K mg Z) : FnOk P w K mg base CX0 2 Z.f__law_amounts Z.d__law_amounts p__law_amounts (sp_lawamounts K) := by
  refine T.F__law_amounts.ok sc__law_amounts (fun vs H Q E h => ?_) (fun cdv Ar outer s H vs Q E hr h => ?_)
  · obtain ⟨a, l, cells, count, high, rfl, _⟩ := h
    rfl
  · obtain ⟨a, l, cells, count, high, rfl, c0, c1, w0, w1, hs, hS, k⟩ := h
    refine ⟨_, (pss_one (ps_ret (pe_callTy (r := rTupS K) (call_tuple_of) (by rfl) T.b_tuple boot_tuple (pa_cons (pe_lc (own := [("_law_k", 3)]) rfl sc__law_amounts.nd (pi_range1 (by rfl) T.b_range (pa_cons (pv 1) pa_nil)) (blkOk_by (own := [("_law_k", 3)]) (N := n__law_amounts) (sc := defScope s__law_amounts) (scope := { kind := PySem.ScopeKind.function, names := [ (PySem.Str.ofString ".0", PySem.NameKind.local), (PySem.Str.ofString "_law_k", PySem.NameKind.local), (PySem.Str.ofString "_law_drawn", PySem.NameKind.globalImplicit), (PySem.Str.ofString "int", PySem.NameKind.globalImplicit), (PySem.Str.ofString "_law_high", PySem.NameKind.free), (PySem.Str.ofString "_law_state", PySem.NameKind.free)], isGenerator := false, isCoroutine := false, more := [] : PySem.Scope }) (by decide +kernel)) (fun _ _ _ _ _ => (pg_name (i := 3) sc__law_amounts.nd rfl (Or.inl rfl))) (fun _ _ _ _ _ => pts_nil) (fun _ _ _ _ _ => (pe_op op_mul (pe_call (ok__law_drawn T) (hr.mono (by decide)) (by rfl) T.g__law_drawn T.F__law_drawn.kp T.b__law_drawn .nil pass0 (pa_cons (pv 0) (pa_cons (pe_op op_add (pv 2) pe_int) pa_nil))) (pe_callTy (r := rInt1) (call_int1) (by rfl) T.b_int boot_int (pa_cons (pe_cmpR op_gt (pe_call (ok__law_drawn T) (hr.mono (by decide)) (by rfl) T.g__law_drawn T.F__law_drawn.kp T.b__law_drawn .nil pass0 (pa_cons (pv 0) (pa_cons pe_int pa_nil))) pe_int (nomark _)) pa_nil))))) pa_nil)))), ?_⟩
    have hx : EvX _ _ H a l (TI' fun ns => (ns.length : Int) = count ∧ ∀ x ∈ ns, 0 ≤ x ∧ x ≤ high) := x_tupL (K := K) (x_lcR (jj := 3) (vs := [3]) (n := count) (σ := [some (.ref a), some (.int count), some (.int high), none]) (ea_cons (ev_var (i := 1) rfl) ea_nil) ⟨c0, by omega⟩ (fun _ => rfl) fun i H1 d1 hi =>
      xi_op (A := fun v => 0 ≤ v ∧ v < high + 1) (B := fun i => i = 0 ∨ i = 1) (xi_dr (E := E0) (n := high + 1) (ex_l d1.ex hS) (fun G => ev_var (i := 0) rfl) (xi_op0 (g := fun i j => i + j) (A := fun i => i = high) (B := fun i => i = 1) (xi_ev (ev_var (i := 2) rfl) rfl) (xi_ev ev_c rfl) (fun i j a b => by omega)) (by omega) (by omega))
        (xi_intb (xb_cmp (g := fun i j => decide (j < i)) (B := fun _ => True) (xi_dr (E := E0) (n := 4) (ex_l d1.ex hS) (fun G => ev_var (i := 0) rfl) (xi_ev ev_c rfl) (by decide) (by decide)) (xi_ev (i := 0) ev_c trivial)))
        (R := CMul) (g := fun i j => i * j) fun i j hi hj => ⟨by rcases hj with rfl | rfl <;> exact .inr (by decide), by rcases hj with rfl | rfl <;> simp <;> omega⟩)
    exact hx H (Dr.refl hs) _ fun v H2 d2 ⟨p, ns, e, hp, hl', hA⟩ => by
      subst e
      exact k p ns H2 d2 hp hl' hA
theorem x_amountsI {σ : L2.St} {H : Hp} {h l : Addr} {ta tb tc : TE} {E : XK} {cells : List Int} {A B : Int → Prop} (hc : SqL K (wn H (hl h l)) l (cells.map V.int)) (ha : ∀ G, Ev ta σ G (.ref h)) (hb : EvI tb σ H h l A) (hw : EvI tc σ H h l B) (hA : ∀ n, A n → 0 ≤ n ∧ n ≤ 1000) (hB : ∀ n, B n → 0 ≤ n ∧ n ≤ 1000000000) :
    EvX (tCall (sp_lawamounts K) [] E (tCons ta (tCons tb (tCons tc tNil)))) σ H h l (TI' fun ns => A (ns.length : Int) ∧ ∃ w, B w ∧ ∀ x ∈ ns, 0 ≤ x ∧ x ≤ w) :=
  x_call3 (A := A) (B := B) ha hb hw fun i j H1 ei ej d1 Q q => by
    obtain ⟨a0, a1⟩ := hA i ei
    obtain ⟨b0, b1⟩ := hB j ej
    exact ⟨h, l, cells, i, j, rfl, a0, a1, b0, b1, d1.hs, ex_l d1.ex hc, fun p ns H2 d2 hp e1 e2 => q _ H2 d2 ⟨p, ns, rfl, hp, by rw [e1]; exact ei, j, ej, e2⟩⟩
end Sw
namespace Sw
open PySem PySem.Spec PyProof.Rows L2 Evl GnX LamX NdefX
local macro_rules | `(tactic| walk_at "ev") => `(tactic| first
  | exact ev_c
  | exact ev_var rfl
  | ((with_reducible show Ev (tCB rMax2 _) _ _ _); exact ev_maxi (by walk_at "ev") (by walk_at "ev"))
  | ((with_reducible show Ev (tCB rMn _) _ _ _); exact ev_min2 (by walk_at "ev") (by walk_at "ev"))
  | ((with_reducible show Ev (tUn _ _) _ _ _); exact ev_un (by walk_at "ev") ru_neg)
  | ((with_reducible show Ev (tFld _ _ _) _ _ _); exact ev_fldK (by walk_at "ev") (by assumption))
  | ((with_reducible show Ev (tOp (rI0 _) _ _) _ _ _); exact ev_op (by walk_at "ev") (by walk_at "ev") rv_I0)
  | ((with_reducible show Ev (tOp rEq _ _) _ _ _); exact ev_op (by walk_at "ev") (by walk_at "ev") (rv_eq rfl))
  | ((with_reducible show Ev (tOp rNe _ _) _ _ _); exact ev_op (by walk_at "ev") (by walk_at "ev") (rv_ne rfl)))

/-! ### rules of numbers that are wrong -/
variable {P : Program} {w : World} {K : PySem.W.Frag} {mg : Str → Option Value} {base : Heap} {Z : Ad}
/-- what is raised: an error of a rule, its dict -/
def RaiR (Z : Ad) (p : Str) (H : Hp) (E : XK) : Prop := ∀ d H', Ex H H' → H d = none → H' d = some (.xd [("part", .str p)]) → E (.ref Z.c_InvalidRule) (some d) H'
theorem RaiR.mono {p : Str} {H H' : Hp} {E : XK} (e : Ex H H') (h : RaiR Z p H E) : RaiR Z p H' E := fun d H2 e2 n x => h d H2 (e.trans e2) (fresh_back e n) x
def sp_IR (Z : Ad) : Sp := fun vs H Q _ => ∃ (a : Addr) (p : Str), vs = [.ref a, .str p] ∧ p.length ≤ 1000 ∧ H a = some (exo a Z.c_InvalidRule none) ∧
  ∀ dx H', H dx = none → dx ≠ a → H' a = some (exo a Z.c_InvalidRule (some dx)) → H' dx = some (exd dx [("part", .str p)]) → (∀ b o, H b = some o → b ≠ a → H' b = some o) → Q .non H'
theorem ok_InvalidRule___init__ (T : Txt K mg Z) (hP : P = Z.P) : FnOk P w K mg base L2.CX0 1 Z.f_InvalidRule___init__ Z.d_InvalidRule___init__ p_InvalidRule___init__ (sp_IR Z) := by
  subst hP
  refine sup_fn (k := 0) (CX := L2.CX0) T.xs_InvalidRule T.ox_InvalidRule rfl sc_InvalidRule___init__ rfl rfl rfl rfl T.b_super (fun _ => rfl) (fun _ _ => rfl) (fun _ => rfl) (fun vs H Q E ⟨a, p, e, _⟩ => by rw [e]; rfl) (fun A outer s H vs Q E hr ⟨a, p, e, h0, ha, k⟩ => ?_)
  subst e
  refine ⟨_, _, a, [.str p], pa_cons (pe_joined (.cons pe_str (.cons (pe_fmt (pv 1)) .nil))) pa_nil, pss_one (ps_ost (pv 0) (pv 1)), rfl, ha, ?_⟩
  have hz := sizeLine_eq
  have l1 : (Str.ofString "wrong ").length = 6 := by decide +kernel
  have l0 : Str.empty.length = 0 := rfl
  refine ⟨_, rfl, ?_, _, rfl, .inl ⟨p, rfl, by omega, p, rfl, ?_, by show 1 ≤ 1000; decide, ha, ?_⟩⟩
  · rw [Str.length_append]; omega
  · simp only [Str.length_append]; omega
  refine ⟨_, rfl, _, rfl, a, Z.c_InvalidRule, rfl, T.ox_InvalidRule, T.na_InvalidRule_part, .inl ⟨ha, fun dx hd ne => k dx _ hd ne upd_same ?_ fun b o q n => ?_⟩⟩
  · exact (upd_ne ne).trans upd_same
  · rw [upd_ne n, upd_ne (ne_of_none q hd)]; exact q
theorem rs_rul {σ : L2.St} {H : Hp} {t : TA} {p : Str} {E : XK} (ha : EvA t σ H [.str p]) (h0 : p.length ≤ 1000) (k : RaiR Z p H E) : tMkO Z.c_InvalidRule (sp_IR Z) [] t σ H (fun cls d H' => E cls d H') :=
  ha H (Ex.refl H) _ fun H1 e1 => ⟨by show 1 ≤ 1000; decide, fun a na => ⟨a, p, rfl, h0, upd_same, fun dx H' hd ne x1 x2 x3 => by
    rw [upd_ne ne] at hd
    refine ⟨rfl, dx, _, x1, x2, hd, k dx _ (fun b o q => ?_) (fresh_back e1 hd) upd_same⟩
    have q1 := e1 b o q
    rw [upd_ne (ne_of_none q1 hd), del_ne (ne_of_none q1 na)]
    exact x3 b o ((upd_ne (ne_of_none q1 na)).trans q1) (ne_of_none q1 na)⟩⟩
def sp_partX (Z : Ad) : Sp := fun vs H _ E => ∃ (s : Str) (n lo : Int), vs = [.str s, .int n, .int lo] ∧ s.length ≤ 1000 ∧ (n < lo ∨ 1000000000 < n) ∧ RaiR Z s H E
theorem okX_check_part (T : Txt K mg Z) (hP : P = Z.P) : FnOk P w K mg base (L2.CX P w) 3 Z.f_check_part Z.d_check_part p_check_part (sp_partX Z) := by
  refine T.F_check_part.okX sc_check_part (fun vs H Q E h => ?_) (fun cdv Ar outer s H vs Q E hr h => ?_)
  · obtain ⟨s, n, lo, rfl, _⟩ := h
    rfl
  · obtain ⟨s, n, lo, rfl, hs, h1, k⟩ := h
    refine ⟨_, (pss_one (ps_if (PW.pt (pw_or (pt_cmpR op_lt (pv 1) (pv 2) (nomark _)) (pw_or1 (pt_cmpR op_gt (pv 1) (pe_glob (v := .int 1000000000) (by rfl) T.g_MOST_LOAVES ⟨_, rfl⟩) (nomark _))))) (pss_one (ps_raise rfl (takes_of rfl rfl rfl rfl) (pmk_oex T.ox_InvalidRule T.xi_InvalidRule T.xt_InvalidRule (ok_InvalidRule___init__ T hP) (hr.mono (by decide)) T.b_InvalidRule___init__ .nil pass0 (by rfl) T.g_InvalidRule (pa_cons (pv 0) pa_nil)))) pss_nil)), ?_⟩
    exact s_when (b := true) (et_is (et_or (et_test (by walk_at "ev")) fun _ => et_test (by walk_at "ev")) (by simp; omega)) (fun _ H1 e1 => rs_rul (ea_cons (ev_var rfl) ea_nil) hs (k.mono e1)) fun hb => nomatch hb
theorem okM_check_part (T : Txt K mg Z) (hP : P = Z.P) : FnOk P w K mg base (L2.CX P w) 3 Z.f_check_part Z.d_check_part p_check_part (spOr sp_part (sp_partX Z)) := fn_or (fn_lift (ok_check_part T)) (okX_check_part T hP)
def sp_RX (Z : Ad) (part : Str) : Sp := fun vs H _ E => ∃ (x : Addr) (a : Int), vs = [.ref x, .int a] ∧ (a < 0 ∨ 1000000000 < a) ∧ RaiR Z part H E
theorem wl_amount : (Str.ofString "amount").length ≤ 1000 := by decide +kernel
theorem wl_goal : (Str.ofString "goal").length ≤ 1000 := by decide +kernel
theorem wl_more : (Str.ofString "more").length ≤ 1000 := by decide +kernel
theorem okX_Rule___init__ (T : Txt K mg Z) (hP : P = Z.P) : FnOk P w K mg base (L2.CX P w) 4 Z.f_Rule___init__ Z.d_Rule___init__ p_Rule___init__ (sp_RX Z "amount") := by
  refine T.F_Rule___init__.okX sc_Rule___init__ (fun vs H Q E h => ?_) (fun cdv Ar outer s H vs Q E hr h => ?_)
  · obtain ⟨x, a, rfl, _⟩ := h
    rfl
  · obtain ⟨x, a, rfl, ha, k⟩ := h
    refine ⟨_, (pss_cons (ps_expr (pe_call (okM_check_part T hP) (hr.mono (by decide)) (by rfl) T.g_check_part T.F_check_part.kp T.b_check_part .nil (passes_call (takes_of rfl rfl rfl rfl) (fun _ _ _ _ h => h)) (pa_cons pe_str (pa_cons (pv 1) (pa_cons pe_int pa_nil)))))
      (pss_one (ps_fld (pv 0) (pv 1) rfl))), ?_⟩
    exact q_rz (ea_cons ev_c (ea_cons (ev_var rfl) (ea_cons ev_c ea_nil))) fun H1 e1 Q => .inr ⟨_, a, 0, rfl, wl_amount, ha, k.mono e1⟩
theorem okM_Rule___init__ (T : Txt K mg Z) (hP : P = Z.P) : FnOk P w K mg base (L2.CX P w) 4 Z.f_Rule___init__ Z.d_Rule___init__ p_Rule___init__ (spOr (sp_Rule Z) (sp_RX Z "amount")) := fn_or (fn_lift (ok_Rule___init__ T)) (okX_Rule___init__ T hP)
theorem okX_RefillRule___init__ (T : Txt K mg Z) (hP : P = Z.P) : FnOk P w K mg base (L2.CX P w) 4 Z.f_RefillRule___init__ Z.d_RefillRule___init__ p_RefillRule___init__ (sp_RX Z "goal") := by
  refine T.F_RefillRule___init__.okX sc_RefillRule___init__ (fun vs H Q E h => ?_) (fun cdv Ar outer s H vs Q E hr h => ?_)
  · obtain ⟨x, a, rfl, _⟩ := h
    rfl
  · obtain ⟨x, a, rfl, ha, k⟩ := h
    refine ⟨_, (pss_cons (ps_expr (pe_call (okM_check_part T hP) (hr.mono (by decide)) (by rfl) T.g_check_part T.F_check_part.kp T.b_check_part .nil (passes_call (takes_of rfl rfl rfl rfl) (fun _ _ _ _ h => h)) (pa_cons pe_str (pa_cons (pv 1) (pa_cons pe_int pa_nil)))))
      (pss_one (ps_fld (pv 0) (pv 1) rfl))), ?_⟩
    exact q_rz (ea_cons ev_c (ea_cons (ev_var rfl) (ea_cons ev_c ea_nil))) fun H1 e1 Q => .inr ⟨_, a, 0, rfl, wl_goal, ha, k.mono e1⟩
theorem okM_RefillRule___init__ (T : Txt K mg Z) (hP : P = Z.P) : FnOk P w K mg base (L2.CX P w) 4 Z.f_RefillRule___init__ Z.d_RefillRule___init__ p_RefillRule___init__ (spOr (sp_Rinit Z isRef mkRef) (sp_RX Z "goal")) := fn_or (fn_lift (ok_RefillRule___init__ T)) (okX_RefillRule___init__ T hP)
/-- a sold rule: its amount is wrong, or it is good and the further number is wrong -/
def sp_SX (Z : Ad) : Sp := fun vs H _ E => ∃ (x dx : Addr) (a m : Int), vs = [.ref x, .int a, .int m] ∧ H x = some (.ins Z.c_SoldRule dx []) ∧
  (((a < 0 ∨ 1000000000 < a) ∧ ∀ cls d H', (∃ dd, cls = .ref Z.c_InvalidRule ∧ d = some dd ∧ (∀ b o, H b = some o → b ≠ x → H' b = some o) ∧ H' dd = some (.xd [("part", .str (Str.ofString "amount"))])) → E cls d H') ∨
   (0 ≤ a ∧ a ≤ 1000000000 ∧ (m < -1000000000 ∨ 1000000000 < m) ∧ ∀ cls d H', (∃ dd, cls = .ref Z.c_InvalidRule ∧ d = some dd ∧ (∀ b o, H b = some o → b ≠ x → H' b = some o) ∧ H' dd = some (.xd [("part", .str (Str.ofString "more"))])) → E cls d H'))
theorem okX_SoldRule___init__ (T : Txt K mg Z) (hP : P = Z.P) : FnOk P w K mg base (L2.CX P w) 5 Z.f_SoldRule___init__ Z.d_SoldRule___init__ p_SoldRule___init__ (sp_SX Z) := by
  subst hP
  refine sup_ownG (k := 4) (CX := L2.CX Z.P w) (CX2 := L2.CX Z.P w) T.su_SoldRule___init__ (fnR_of (okM_Rule___init__ T rfl) T.b_Rule___init__) rfl sc_SoldRule___init__ rfl rfl rfl rfl T.b_super (fun _ => rfl) (fun _ _ => rfl) (fun _ => rfl) (fun vs H Q E h => ?_) (fun A outer s H vs Q E hr h => ?_)
  · obtain ⟨x, dx, a, m, rfl, _⟩ := h
    rfl
  · have hP : Z.P = Z.P := rfl
    obtain ⟨x, dx, a, m, rfl, hx, hh⟩ := h
    refine ⟨_, _, x, dx, [], _, E, passes_call (takes_of rfl rfl rfl rfl) (fun _ _ _ _ h => h), pa_cons (pv 1) pa_nil, (pss_cons (ps_expr (pe_call (okM_check_part T hP) (hr.mono (by decide)) (by rfl) T.g_check_part T.F_check_part.kp T.b_check_part .nil (passes_call (takes_of rfl rfl rfl rfl) (fun _ _ _ _ h => h)) (pa_cons pe_str (pa_cons (pv 2) (pa_cons (pe_un un_neg (pe_glob (v := .int 1000000000) (by rfl) T.g_MOST_LOAVES ⟨_, rfl⟩)) pa_nil)))))
      (pss_one (ps_fld (pv 0) (pv 2) rfl))), rfl, hx, ?_⟩
    refine ⟨.int a, rfl, ?_⟩
    rcases hh with ⟨ha, k⟩ | ⟨a0, a1, hm, k⟩
    · exact .inr ⟨x, a, rfl, ha, fun d H' e nd hd => k _ _ _ ⟨d, rfl, rfl, fun b o hb _ => e b o hb, hd⟩⟩
    · refine .inl ⟨x, dx, Z.c_SoldRule, a, rfl, .inr rfl, a0, a1, hx, fun H1 h1 al1 => ?_⟩
      exact q_rz (ea_cons ev_c (ea_cons (ev_var rfl) (ea_cons (ev_un ev_c ru_neg) ea_nil))) fun H2 e2 Q => .inr ⟨_, m, _, rfl, wl_more, hm, fun d H' e nd hd => k _ _ _ ⟨d, rfl, rfl, fun b o hb hne => e b o (e2 b o (al1 b o hb hne)), hd⟩⟩
theorem okM_SoldRule___init__ (T : Txt K mg Z) (hP : P = Z.P) : FnOk P w K mg base (L2.CX P w) 5 Z.f_SoldRule___init__ Z.d_SoldRule___init__ p_SoldRule___init__ (spOr (sp_Rinit Z isSol mkSol) (sp_SX Z)) := fn_or (fn_lift (ok_SoldRule___init__ T hP)) (okX_SoldRule___init__ T hP)
end Sw
namespace Sw
open PySem PySem.Spec PyProof.Rows L2 Evl GnX LamX NdefX
local macro_rules | `(tactic| walk_at "ev") => `(tactic| first
  | exact ev_c
  | exact ev_var rfl
  | ((with_reducible show Ev (tCB rMax2 _) _ _ _); exact ev_maxi (by walk_at "ev") (by walk_at "ev"))
  | ((with_reducible show Ev (tCB rMn _) _ _ _); exact ev_min2 (by walk_at "ev") (by walk_at "ev"))
  | ((with_reducible show Ev (tUn _ _) _ _ _); exact ev_un (by walk_at "ev") ru_neg)
  | ((with_reducible show Ev (tFld _ _ _) _ _ _); exact ev_fldK (by walk_at "ev") (by assumption))
  | ((with_reducible show Ev (tOp (rI0 _) _ _) _ _ _); exact ev_op (by walk_at "ev") (by walk_at "ev") rv_I0)
  | ((with_reducible show Ev (tOp rEq _ _) _ _ _); exact ev_op (by walk_at "ev") (by walk_at "ev") (rv_eq rfl))
  | ((with_reducible show Ev (tOp rNe _ _) _ _ _); exact ev_op (by walk_at "ev") (by walk_at "ev") (rv_ne rfl)))

/-! ### run and outcome of demands, a life, days that are wrong -/
theorem due_none {bs ds : List Int} {life : Int} (h : dueB bs ds life = none) : Good bs ds ∧ 1 ≤ life ∧ life ≤ 30 := by
  unfold dueB at h
  cases h1 : badAt bs with
  | some j => rw [h1] at h; cases h
  | none =>
    rw [h1] at h
    dsimp only at h
    split at h
    · cases h
    rename_i q0
    cases h2 : badAt ds with
    | some j => rw [h2] at h; cases h
    | none =>
      rw [h2] at h
      dsimp only at h
      split at h
      · cases h
      rename_i q1
      split at h
      · cases h
      rename_i q2
      have g1 := bad_good h1
      have g2 := bad_good h2
      exact ⟨⟨by omega, g1.1, by omega, g1.2, g2.2⟩, by omega, by omega⟩
section
variable {K : PySem.W.Frag} {σ : L2.St} {H : Hp} {ta tb : TE} {v : V}
theorem ew_repA {n : Int} (ha : EvU ta σ H [v]) (hb : Ev tb σ H (.int n)) (h0 : 0 ≤ n) (h1 : n ≤ 1000) : EvW K (tOp (rRepA K) ta tb) σ H (List.replicate n.toNat v) := fun H1 e Q q =>
  ha H1 e _ fun p H2 np e2 hp => hb H2 (e.trans e2) _ fun H3 e3 => by
    by_cases z : n = 0
    · subst z
      exact .inl ⟨p, [v], rfl, rfl, st_of (e3 _ _ hp), by simp, fun r hr => q r _ ((e2.trans e3).trans (Ex.new hr)) (st_of upd_same)⟩
    · exact .inr ⟨p, n, [v], rfl, rfl, st_of (e3 _ _ hp), by simp, by omega, h1, by simp, fun hk => q p H3 (e2.trans e3) (by rw [hk]; exact st_of (e3 _ _ hp)), fun r hr => q r _ ((e2.trans e3).trans (Ex.new hr)) (by
        have z : (List.replicate n.toNat [v]).flatten = List.replicate n.toNat v := by simp
        rw [z]
        exact st_of upd_same)⟩
end
/-- what run raises -/
def RunE (Z : Ad) (ds : List Int) (life n : Int) (H : Hp) (E : XK) : Prop :=
  (∃ p i, dueB (List.replicate ds.length 0) ds life = some (p, i) ∧ RaiB Z p i H E) ∨ (dueB (List.replicate ds.length 0) ds life = none ∧ (n < 0 ∨ 10000 < n) ∧ n.natAbs < 10 ^ 30 ∧ ∀ H', Ex H H' → E (.ref Z.c_InvalidNumber) none H')
theorem RunE.mono {Z : Ad} {ds : List Int} {life n : Int} {H H' : Hp} {E : XK} (e : Ex H H') (h : RunE Z ds life n H E) : RunE Z ds life n H' E := h.elim (fun ⟨p, i, a, b⟩ => .inl ⟨p, i, a, b.mono e⟩) fun ⟨a, b, c, d⟩ => .inr ⟨a, b, c, fun G eG => d G (e.trans eG)⟩
def sp_runZ (K : PySem.W.Frag) (Z : Ad) : SpZ := fun vs H E => ∃ (r td : Addr) (ds : List Int) (life n : Int), vs = [.ref r, .ref td, .int life, .int n] ∧ SqT K H td (ds.map V.int) ∧ ds.length ≤ 24 ∧ RunE Z ds life n H E
variable {P : Program} {w : World} {K : PySem.W.Frag} {mg : Str → Option Value} {base : Heap} {Z : Ad}
theorem okZ_run (T : Txt K mg Z) (hP : P = Z.P) : GFz P w K mg base 5 Z.f_run Z.d_run p_run (sp_runZ K Z) := by
  refine fun_gz T.F_run sc_run (fun vs H E h => ?_) (fun cdv Ar outer s H vs E pn hr h => ?_)
  · obtain ⟨r, td, ds, life, n, rfl, _⟩ := h
    rfl
  · obtain ⟨r, td, ds, life, n, rfl, hT, hl, hE⟩ := h
    have hlen : (((ds.map V.int).length : Nat) : Int) = (ds.length : Int) := by rw [List.length_map]
    rcases hE with ⟨p, i, hd, k⟩ | ⟨hd, hn, hna, k⟩
    · refine ⟨_, (GnX.pz_here (ps_expr (pe_call (okM_check_bakery T hP) (hr.mono (by decide)) (by rfl) T.g_check_bakery T.F_check_bakery.kp T.b_check_bakery .nil (passes_call takes_gcx (fun _ _ _ _ h => h)) (pa_cons (pe_op (op_repAK K rfl) (pe_tup (pa_cons pe_int pa_nil)) (pe_callB (r := rLenS K) (call_len_seq) (by rfl) T.b_len boot_len (pa_cons (pv 1) pa_nil))) (pa_cons (pv 1) (pa_cons (pv 2) pa_nil)))))), ?_⟩
      dsimp only [tHere]
      refine (ew_repA (n := (ds.length : Int)) (eu_tup (ea_cons ev_c ea_nil) (by show 1 ≤ 100000; decide)) (Ev.int_eq (ev_lenT (ev_var rfl) hT) hlen) (by omega) (by omega)) H (Ex.refl _) _ fun q H1 e1 hq => ?_
      exact ⟨_, rfl, _, rfl, .inr ⟨q, td, List.replicate ds.length 0, ds, life, p, i, rfl, sqt_rep hq, ex_t e1 hT, by rw [List.length_replicate]; omega, by omega, hd, k.mono e1⟩⟩
    · obtain ⟨gd, l0, l1⟩ := due_none hd
      have n0 := gd.n0
      rw [List.length_replicate] at n0
      refine ⟨_, (GnX.pz_next (ps_expr (pe_call (okM_check_bakery T hP) (hr.mono (by decide)) (by rfl) T.g_check_bakery T.F_check_bakery.kp T.b_check_bakery .nil (passes_call takes_gcx (fun _ _ _ _ h => h)) (pa_cons (pe_op (op_rep1K K rfl) (pe_tup (pa_cons pe_int pa_nil)) (pe_callB (r := rLenS K) (call_len_seq) (by rfl) T.b_len boot_len (pa_cons (pv 1) pa_nil))) (pa_cons (pv 1) (pa_cons (pv 2) pa_nil))))) (GnX.pz_here (ps_expr (pe_call (okM_check_number T hP) (hr.mono (by decide)) (by rfl) T.g_check_number T.F_check_number.kp T.b_check_number .nil (passes_call takes_gcx (fun _ _ _ _ h => h)) (pa_cons (pv 3) (pa_cons pe_int (pa_cons (pe_glob (v := .int 10000) (by rfl) T.g_MOST_RULE_DAYS ⟨_, rfl⟩) pa_nil))))))), ?_⟩
      dsimp only [tHere, tNxt]
      refine (ev_callW (ew_rep1 (n := (ds.length : Int)) (eu_tup (ea_cons ev_c ea_nil) (by show 1 ≤ 100000; decide)) (Ev.int_eq (ev_lenT (ev_var rfl) hT) hlen) (by omega) (by omega)) (ea_cons (ev_var rfl) (ea_cons (ev_var rfl) ea_nil)) fun p G eG hp => spv_or (spv_check (sqt_rep hp) (ex_t eG hT) gd l0 l1)) H (Ex.refl _) _ fun H1 e1 => ?_
      exact q_rz (ea_cons (ev_var rfl) (ea_cons ev_c (ea_cons ev_c ea_nil))) fun H2 e2 Q => .inr ⟨n, 0, 10000, rfl, by omega, hna, by decide, by decide, fun G eG => k G ((e1.trans e2).trans eG)⟩
/-- the errors of it alone -/
theorem run_alone (T : Txt K mg Z) {ds : List Int} {life n : Int} {H : Hp} {E : XK} (h : RunE Z ds life n H E) : ∃ E', RunE Z ds life n H E' ∧ NoStop K E' ∧ ∀ cls d H', E' cls d H' → E cls d H' := by
  rcases h with ⟨p, i, hd, k⟩ | ⟨hd, hn, hna, k⟩
  · refine ⟨fun cls d H' => ∃ dd, cls = .ref Z.c_InvalidBakery ∧ d = some dd ∧ Ex H H' ∧ H dd = none ∧ H' dd = some (.xd [("index", .int i), ("part", .str p)]), .inl ⟨p, i, hd, fun d H' e n x => ⟨d, rfl, rfl, e, n, x⟩⟩, ?_, ?_⟩
    · rintro cls d H' ⟨dd, rfl, _⟩
      exact T.xz_InvalidBakery
    · rintro cls d H' ⟨dd, rfl, rfl, e, n, x⟩
      exact k dd H' e n x
  · refine ⟨fun cls d H' => cls = .ref Z.c_InvalidNumber ∧ d = none ∧ Ex H H', .inr ⟨hd, hn, hna, fun H' e => ⟨rfl, rfl, e⟩⟩, ?_, ?_⟩
    · rintro cls d H' ⟨rfl, _⟩
      exact T.xz_InvalidNumber
    · rintro cls d H' ⟨rfl, rfl, e⟩
      exact k H' e
def sp_outcomeX (K : PySem.W.Frag) (Z : Ad) : Sp := fun vs H _ E => ∃ (r td : Addr) (ds : List Int) (life n : Int), vs = [.ref r, .ref td, .int life, .int n] ∧ SqT K H td (ds.map V.int) ∧ ds.length ≤ 24 ∧ RunE Z ds life n H E
theorem z_run (T : Txt K mg Z) {σ : L2.St} {H : Hp} {t : TA} {r td : Addr} {ds : List Int} {life n : Int} {E : XK} (ha : EvA t σ H [.ref r, .ref td, .int life, .int n]) (hT : SqT K H td (ds.map V.int)) (hl : ds.length ≤ 24) (hE : RunE Z ds life n H E) : tCallGz K (sp_runZ K Z) E t σ H := ha H (Ex.refl _) _ fun H1 e1 => by
  obtain ⟨E', a, b, c⟩ := run_alone T (hE.mono e1)
  exact ⟨E', ⟨r, td, ds, life, n, rfl, ex_t e1 hT, hl, a⟩, b, c⟩
theorem okX_outcome (T : Txt K mg Z) (hP : P = Z.P) : FnOk P w K mg base (L2.CX P w) 7 Z.f_outcome Z.d_outcome p_outcome (sp_outcomeX K Z) := by
  refine T.F_outcome.okX sc_outcome (fun vs H Q E h => ?_) (fun cdv Ar outer s H vs Q E hr h => ?_)
  · obtain ⟨r, td, ds, life, n, rfl, _⟩ := h
    rfl
  · obtain ⟨r, td, ds, life, n, rfl, hT, hl, hE⟩ := h
    refine ⟨_, (pss_cons (ps_set (i := 4) sc_outcome.nd rfl (Or.inl rfl) (pe_op op_rep (pe_lst (pa_cons pe_int pa_nil)) pe_int))
      (pss_cons (GnX.ps_forGz (passes_of rfl) (passes_call (takes_of rfl rfl rfl rfl) (fun _ _ _ _ h => h)) rfl (hr.mono (by decide)) (GnX.pgz_call (okZ_run T hP) (hr.mono (by decide)) (by rfl) T.g_run T.F_run.kp T.b_run (pa_cons (pv 0) (pa_cons (pv 1) (pa_cons (pv 2) (pa_cons (pv 3) pa_nil))))))
      (pss_one (ps_ret (pe_callTy (r := rTupS K) (call_tuple_of) (by rfl) T.b_tuple boot_tuple (pa_cons (pv 4) pa_nil)))))), ?_⟩
    refine q_asgL (xs := (List.replicate 4 (0 : Int)).map V.int) (el_isV (el_repR (el_lst (ea_cons ev_c ea_nil) (by show 1 ≤ 100000; decide)) ev_c (by decide) (by decide)) rfl) fun p H1 np e1 hp => ?_
    exact z_run T (ea_cons (ev_var rfl) (ea_cons (ev_var rfl) (ea_cons (ev_var rfl) (ea_cons (ev_var rfl) ea_nil)))) (ex_t e1 hT) hl (hE.mono e1)
theorem okM_outcome (T : Txt K mg Z) (hP : P = Z.P) : FnOk P w K mg base (L2.CX P w) 7 Z.f_outcome Z.d_outcome p_outcome (spOr (sp_outcome Z) (sp_outcomeX K Z)) := fn_or (fn_lift (ok_outcome T)) (okX_outcome T hP)
end Sw
namespace Sw
open PySem PySem.Spec PyProof.Rows L2 Evl LamX NdefX
local macro_rules | `(tactic| walk_at "ev") => `(tactic| first
  | exact ev_c
  | exact ev_var rfl
  | ((with_reducible show Ev (tCB rMax2 _) _ _ _); exact ev_maxi (by walk_at "ev") (by walk_at "ev"))
  | ((with_reducible show Ev (tCB rMn _) _ _ _); exact ev_min2 (by walk_at "ev") (by walk_at "ev"))
  | ((with_reducible show Ev (tUn _ _) _ _ _); exact ev_un (by walk_at "ev") ru_neg)
  | ((with_reducible show Ev (tFld _ _ _) _ _ _); exact ev_fldK (by walk_at "ev") (by assumption))
  | ((with_reducible show Ev (tOp (rI0 _) _ _) _ _ _); exact ev_op (by walk_at "ev") (by walk_at "ev") rv_I0)
  | ((with_reducible show Ev (tOp rEq _ _) _ _ _); exact ev_op (by walk_at "ev") (by walk_at "ev") (rv_eq rfl))
  | ((with_reducible show Ev (tOp rNe _ _) _ _ _); exact ev_op (by walk_at "ev") (by walk_at "ev") (rv_ne rfl)))

/-! ### outcomes: what a call raises, as a row -/
section
variable {K : PySem.W.Frag} {J : It} {n : Nat} {G : Hp → Prop} {Y : Nat → Hp → V → Hp → Prop}
theorem lcF_it (w : Walk J n G Y) {g : TG} {te : TE} {vs : List Nat} {σ : L2.St} {H1 : Hp} {D : Addr} {Qd : Hp → Prop} (Pv : Nat → Hp → Prop) (h0 : Pv 0 (upd H1 D (.lst []))) (hG : ∀ i H, i ≤ n → Pv i H → G H)
    (hs : ∀ i x H H', i < n → Pv i H → Y i H x H' → g x (wipe σ vs) H' fun σ2 H2 => wipe σ2 vs = wipe σ vs ∧ te σ2 H2 fun y H4 => ∃ acc, H4 D = some (.lst acc) ∧ acc.length < sizeLine ∧ Pv (i + 1) (upd H4 D (.lst (acc ++ [y])))) (hd : ∀ H, Pv n H → Qd H) :
    ∃ W : Nat → Nat → Hp → Prop, (∃ m, W 0 m (upd H1 D (.lst []))) ∧ ∀ i m H, W i m H →
      (J.stop i H ∧ Qd H) ∨ (J.go i H ∧ ∃ Nx : Hp → Prop, (∀ H', Nx H' → ∃ m', m' < m ∧ W (i + 1) m' H') ∧ ∀ x H', J.yld i H x H' → g x (wipe σ vs) H' fun σ2 H2 => wipe σ2 vs = wipe σ vs ∧
        te σ2 H2 fun y H4 => ∃ acc, H4 D = some (.lst acc) ∧ acc.length < sizeLine ∧ Nx (upd H4 D (.lst (acc ++ [y])))) := by
  refine ⟨fun i m H => m = n - i ∧ i ≤ n ∧ Pv i H, ⟨n, by simp, Nat.zero_le _, h0⟩, ?_⟩
  rintro i m H ⟨rfl, hi, p⟩
  have q := hG i H hi p
  by_cases hlt : i < n
  · exact .inr ⟨w.goes i H hlt q, Pv (i + 1), fun H' p' => ⟨n - (i + 1), by omega, rfl, hlt, p'⟩, fun x H' y => hs i x H H' hlt p (w.yields i H x H' hlt q y)⟩
  · have e : i = n := by omega
    subst e
    exact .inl ⟨w.stops H q, hd H p⟩
theorem mix_over {Cl : Addr → Prop} {H H3 : Hp} (e : Ex (wn H Cl) H3) : Ex H (mixN Cl H H3) := fun b o q => by
  by_cases n : Cl b
  · rw [mix_in n]; exact q
  · rw [mix_ni n]; exact e b o ((wn_ni n).trans q)
theorem cl_none {X : Cx} {σ : L2.St} {H Hz : Hp} {N : Addr → Prop} {scope : Scope} (z : Frz X σ H Hz N) (hfree : ∀ y ∈ scope.names, y.2 = .free → X.env.scope.names.lookup y.1 = some .cell ∨ X.env.scope.names.lookup y.1 = some .free) : ∀ y c, (cloFrom X.env.cells scope.names []).lookup y = some c → H c = none := fun y c e =>
  z.off c ((z.iff c).mpr ⟨y, clo_cm (fun y hy e => z.has y.1 (hfree y hy e)) e⟩)
theorem ev_xf {σ : L2.St} {H : Hp} {te : TE} {a dd C : Addr} {v : V} {fs : List (Str × V)} {n : Str} (he : Ev te σ H (.ref a)) (hx : H dd = some (.xd fs)) (hl : fs.lookup n = some v) : Ev (tXf a (.ref C) (some dd) C n te) σ H v := fun H1 e Q q => he H1 e _ fun H2 e2 => ⟨rfl, rfl, dd, fs, v, rfl, e2 _ _ (e _ _ hx), hl, q H2 e2⟩
end
/-- an error, and the row that tells it -/
def ErrRow (Z : Ad) (cls : Value) (d : Option Addr) (H : Hp) (xs : List V) : Prop :=
  (∃ dd p i, cls = .ref Z.c_InvalidBakery ∧ d = some dd ∧ H dd = some (.xd [("index", .int i), ("part", .str p)]) ∧ xs = [.str "InvalidBakery", .str p, .int i]) ∨ (cls = .ref Z.c_InvalidNumber ∧ d = none ∧ xs = [.str "InvalidNumber"]) ∨
  (∃ dd p, cls = .ref Z.c_InvalidRule ∧ d = some dd ∧ H dd = some (.xd [("part", .str p)]) ∧ xs = [.str "InvalidRule", .str p])
theorem ErrRow.mix {Z : Ad} {cls : Value} {d : Option Addr} {H H3 : Hp} {xs : List V} {Cl : Addr → Prop} (nn : ∀ b, Cl b → H3 b = none) (h : ErrRow Z cls d H3 xs) : ErrRow Z cls d (mixN Cl H H3) xs := by
  have go : ∀ {b : Addr} {o : HO}, H3 b = some o → mixN Cl H H3 b = some o := fun {b o} e => (mix_ni fun z => by rw [nn b z] at e; cases e).trans e
  rcases h with ⟨dd, p, i, a, b, c, e⟩ | h | ⟨dd, p, a, b, c, e⟩
  · exact .inl ⟨dd, p, i, a, b, go c, e⟩
  · exact .inr (.inl h)
  · exact .inr (.inr ⟨dd, p, a, b, go c, e⟩)
def OutR (Z : Ad) (Q : VK) : XK := fun cls d H1 => ∃ xs, ErrRow Z cls d H1 xs ∧ ∀ p H2, H1 p = none → Ex H1 H2 → H2 p = some (.tup xs) → Q (.ref p) H2
variable {P : Program} {w : World} {K : PySem.W.Frag} {mg : Str → Option Value} {base : Heap} {Z : Ad}
def sp_out (P : Program) (w : World) (K : PySem.W.Frag) (mg : Str → Option Value) (base : Heap) (Z : Ad) : Sp := fun vs H Q _ => ∃ (f : Addr) (sp : Sp) (S : Hp), vs = [.ref f] ∧ Cal P w K mg base (L2.CX P w) 11 f sp S ∧ Ex S H ∧
  ∀ (Q1 : VK) (E1 : XK), (∀ v H1, Q v H1 → Q1 v H1) → (∀ cls d H1, OutR Z Q cls d H1 → E1 cls d H1) → sp [] H Q1 E1
theorem ok__law_outcome (T : Txt K mg Z) : FnOk P w K mg base CX0 12 Z.f__law_outcome Z.d__law_outcome p__law_outcome (sp_out P w K mg base Z) := by
  refine T.F__law_outcome.ok sc__law_outcome (fun vs H Q E h => ?_) (fun cdv Ar outer s H vs Q E hr h => ?_)
  · obtain ⟨f, sp, S, rfl, _⟩ := h
    rfl
  · obtain ⟨f, sp, S, rfl, C, eS, q⟩ := h
    refine ⟨_, (pss_one (ps_tryN rfl rfl sc__law_outcome.nd (by exact (fun W pn xe tk _ => (pss_one (ps_ret (pe_calS (CX := L2.CX P w) (i := 0) (k := 11) P w K mg base rfl rfl rfl rfl rfl hr (by decide) (fun σ => passAt tk σ) rfl (by first | exact Or.inl rfl | exact Or.inr (Or.inl rfl) | exact Or.inr (Or.inr rfl))))))) (by exact (.named (i := 1) ⟨rfl, by decide, Or.inl T.g_InvalidBakery⟩ rfl rfl (fun a oe cls d pn hz hf => (pss_one (by exact (ps_ret (pe_tup (pa_cons pe_str (pa_cons (pe_xf T.xI_InvalidBakery.xf T.na_InvalidBakery_part hz hf (pv 1)) (pa_cons (pe_xf T.xI_InvalidBakery.xf T.na_InvalidBakery_index hz hf (pv 1)) pa_nil)))))))) (.bare ⟨rfl, by decide, Or.inl T.g_InvalidNumber⟩ (fun a oe cls d pn hz hf => (pss_one (by exact (ps_ret (pe_tup (pa_cons pe_str pa_nil)))))) (.named (i := 1) ⟨rfl, by decide, Or.inl T.g_InvalidRule⟩ rfl rfl (fun a oe cls d pn hz hf => (pss_one (by exact (ps_ret (pe_tup (pa_cons pe_str (pa_cons (pe_xf T.xI_InvalidRule.xf T.na_InvalidRule_part hz hf (pv 1)) pa_nil))))))) .nil)))))), ?_⟩
    refine ⟨f, sp, S, rfl, C, eS, q _ _ ?_ ?_⟩
    · intro v H1 h
      exact h
    rintro cls d H1 ⟨xs, er, h⟩
    rcases er with ⟨dd, p, i, rfl, rfl, hx, rfl⟩ | ⟨rfl, rfl, rfl⟩ | ⟨dd, p, rfl, rfl, hx, rfl⟩
    · refine ⟨true, T.xn_InvalidBakery_InvalidBakery, fun _ a na => ?_, fun z => nomatch z⟩
      exact s_retU (xs := [.str "InvalidBakery", .str p, .int i]) (eu_tup (ea_cons ev_c (ea_cons (ev_xf (ev_var rfl) hx rfl) (ea_cons (ev_xf (ev_var rfl) hx rfl) ea_nil))) (by show 3 ≤ 100000; decide)) fun p H2 hp e2 h2 => h p H2 hp e2 h2
    · refine ⟨false, T.xn_InvalidNumber_InvalidBakery, (fun z => nomatch z), fun _ => ⟨true, T.xn_InvalidNumber_InvalidNumber, fun _ a na => ?_, fun z => nomatch z⟩⟩
      exact s_retU (xs := [.str "InvalidNumber"]) (eu_tup (ea_cons ev_c ea_nil) (by show 1 ≤ 100000; decide)) fun p H2 hp e2 h2 => h p H2 hp e2 h2
    · refine ⟨false, T.xn_InvalidRule_InvalidBakery, (fun z => nomatch z), fun _ => ⟨false, T.xn_InvalidRule_InvalidNumber, (fun z => nomatch z), fun _ => ⟨true, T.xn_InvalidRule_InvalidRule, fun _ a na => ?_, fun z => nomatch z⟩⟩⟩
      exact s_retU (xs := [.str "InvalidRule", .str p]) (eu_tup (ea_cons ev_c (ea_cons (ev_xf (ev_var rfl) hx rfl) ea_nil)) (by show 2 ≤ 100000; decide)) fun p H2 hp e2 h2 => h p H2 hp e2 h2
/-- what a call that raises does -/
def sp_rX (Z : Ad) (xs : List V) : Sp := fun vs H _ E => vs = [] ∧ ∀ cls d H', Ex H H' → ErrRow Z cls d H' xs → E cls d H'
theorem rX_mix {H : Hp} {E : XK} {Cl : Addr → Prop} {xs : List V} (r : ∀ cls d H', Ex H H' → ErrRow Z cls d H' xs → E cls d H') : ∀ cls d H3, Ex (wn H Cl) H3 → ErrRow Z cls d H3 xs → (fun c d H3 => (∀ b, Cl b → H3 b = none) → E c d (mixN Cl H H3)) cls d H3 := fun cls d H3 e er nn => r _ _ _ (mix_over e) (er.mix nn)
/-- the outcomes of a list of calls, each of which raises -/
theorem lcF_outs {X : Cx} {σ : L2.St} {H : Hp} {tw : TE} {q : Addr} {fs : List Addr} {rows : List (List V)} {E : XK} {j : Nat} {Q : VK} (hw : Ev tw σ H (.ref q)) (hq : SqL K H q (fs.map V.ref)) (hwp : ∀ x, wipe ((wipe σ [j]).set j (some x)) [j] = wipe σ [j]) (hsl : ∀ x, ((wipe σ [j]).set j (some x))[j]? = some (some x))
    (hlen : fs.length = rows.length) (hn : fs.length ≤ 100)
    (hc : ∀ H1, Ex H H1 → ∀ Hz N, Frz X σ H1 Hz N → ∀ (i : Nat) f xs, fs[i]? = some f → rows[i]? = some xs → Cal P w K mg base (L2.CX P w) 11 f (sp_rX Z xs) Hz)
    (fin : ∀ (D : Addr) (ts : List Addr) H', Ex H H' → H' D = some (.lst (ts.map V.ref)) → ts.length = rows.length → (∀ (i : Nat) t xs, ts[i]? = some t → rows[i]? = some xs → H' t = some (.tup xs)) → Q (.ref D) H') :
    tLcF X (iList K tw) (gName j) (tCall (sp_out P w K mg base Z) [] E (tCons (tVar j) tNil)) [j] σ H Q := by
  refine hw H (Ex.refl _) _ fun H1 e1 => ⟨q, rfl, ⟨_, ex_l e1 hq⟩, ?_⟩
  intro Hz N fz Dl hD
  have fz0 : Ex H1 Hz := fz.ex_
  have nD : ¬ N Dl := fun z => by obtain ⟨o, v, e, _⟩ := fz.inn _ z; rw [hD] at e; cases e
  refine lcF_it (walk_list (K := K) (a := q) (xs := fs.map V.ref)) (fun i H' => ∃ ts : List Addr, ts.length = i ∧ Ex Hz H' ∧ H' Dl = some (.lst (ts.map V.ref)) ∧ ∀ (k : Nat) t xs, ts[k]? = some t → rows[k]? = some xs → H' t = some (.tup xs))
    ⟨[], rfl, Ex.new hD, upd_same, by simp⟩ (fun i H' _ p => ex_l (fz0.trans p.choose_spec.2.1) (ex_l e1 hq)) ?_ ?_
  · rintro i x H2 H2' hi ⟨ts, hl, eZ, hL, ht⟩ ⟨ey, hx⟩
    rw [ey]
    rw [List.getElem?_map] at hx
    obtain ⟨f, hf, rfl⟩ := Option.map_eq_some_iff.mp hx
    have hif : i < fs.length := (List.getElem?_eq_some_iff.mp hf).1
    obtain ⟨xs, hxs⟩ : ∃ xs, rows[i]? = some xs := ⟨_, List.getElem?_eq_getElem (by omega)⟩
    refine ⟨hwp _, ?_⟩
    refine (ev_var (i := j) (hsl _)) H2 (Ex.refl _) _ fun H3 e3 => ?_
    refine ⟨f, sp_rX Z xs, Hz, rfl, ?_, eZ.trans e3, fun Q1 E1 q1 e1' => ⟨rfl, fun cls d H' ex er => e1' _ _ _ ⟨xs, er, fun p H4 np ex2 h4 => ?_⟩⟩⟩
    · exact hc H1 e1 Hz N fz i f xs hf hxs
    · have e24 := (e3.trans ex).trans ex2
      have h5 := e24 _ _ hL
      have npD : p ≠ Dl := fun z => by rw [z, (e3.trans ex) _ _ hL] at np; cases np
      refine ⟨ts.map V.ref, h5, sz_lt (by rw [List.length_map, hl]; omega), ts ++ [p], by rw [List.length_append, hl]; rfl, fun b o z => ?_, by rw [upd_same, List.map_append]; rfl, fun k t ys htm hys => ?_⟩
      · rw [upd_ne (fun y => by rw [y, hD] at z; cases z)]; exact e24 _ _ (eZ _ _ z)
      · by_cases hk : k < ts.length
        · rw [List.getElem?_append_left hk] at htm
          have a := ht k t ys htm hys
          have ne : t ≠ Dl := fun y => by rw [y, hL] at a; cases a
          rw [upd_ne ne]; exact e24 _ _ a
        · have hk2 : k = ts.length := by
            have := (List.getElem?_eq_some_iff.mp htm).1
            rw [List.length_append] at this
            simp at this
            omega
          rw [hk2, List.getElem?_append_right (Nat.le_refl _), Nat.sub_self] at htm
          have ep : p = t := by simpa using htm
          subst ep
          rw [hk2, hl, hxs] at hys
          cases hys
          rw [upd_ne npD]; exact h4
  · rintro H2 ⟨ts, hl, eZ, hL, ht⟩
    rw [List.length_map] at hl
    have go : ∀ {b : Addr} {o : HO}, H2 b = some o → (∀ u, o ≠ .frz u okT) → wn H2 N b = some o := fun {b o} e n => (wn_ni fun z => by
      obtain ⟨u, v, e', _⟩ := fz.inn _ z
      have := eZ _ _ e'
      rw [e] at this; exact n u (Option.some.inj this)).trans e
    have eH : Ex H (wn H2 N) := fun b o e => by
      have e' := e1 _ _ e
      rw [wn_ni fun z => by rw [fz.off b z] at e'; cases e']
      exact eZ _ _ (fz0 _ _ e')
    exact fin Dl ts _ eH (go hL fun _ z => nomatch z) (by omega) fun i t xs h1 h2 => go (ht i t xs h1 h2) fun _ z => nomatch z
/-! ### rows of words and numbers as data -/
def vD : V → PyData
  | .str s => .str s
  | .int i => .int i
  | _ => .none
def plainV : V → Prop
  | .str _ => True
  | .int _ => True
  | _ => False
theorem dps_of {G : Hp} : ∀ {xs : List V}, (∀ x ∈ xs, plainV x) → DpAll K G xs (xs.map vD)
  | [], _ => .nil
  | x :: xs, h => .cons (by
      have z := h x List.mem_cons_self
      cases x with
      | str s => exact .str s
      | int i => exact .int i
      | _ => exact z.elim) (dps_of fun y hy => h y (List.mem_cons_of_mem _ hy))
theorem dp_row {G : Hp} {t : Addr} {xs : List V} (h : SqT K G t xs) (hp : ∀ x ∈ xs, plainV x) : Dp K G (.ref t) (.tuple (xs.map vD)) := .tup h (dps_of hp)
theorem dp_rows {G : Hp} : ∀ {ts : List Addr} {rows : List (List V)}, ts.length = rows.length → (∀ (i : Nat) t xs, ts[i]? = some t → rows[i]? = some xs → SqT K G t xs ∧ ∀ x ∈ xs, plainV x) → DpAll K G (ts.map V.ref) (rows.map fun xs => .tuple (xs.map vD))
  | [], [], _, _ => .nil
  | t :: ts, xs :: rows, hl, h => .cons (let z := h 0 t xs rfl rfl; dp_row z.1 z.2) (dp_rows (by simpa using hl) fun i t xs h1 h2 => h (i + 1) t xs h1 h2)
  | [], _ :: _, hl, _ => by simp at hl
  | _ :: _, [], hl, _ => by simp at hl
end Sw
namespace Sw
open PySem PySem.Spec PyProof.Rows L2 Evl
/-! ### a list of anything against the empty list -/
def rNeE (K : PySem.W.Frag) : R2 := fun x y H Q => ∃ a b xs, x = .ref a ∧ y = .ref b ∧ SqL K H a xs ∧ SqL K H b [] ∧ Q (.bl (!decide (xs.length = 0))) H
theorem op_neE {X : Cx} (hu : X.A.units + 64 < cLine) : OpR X (compareOp .NotEq) (rNeE X.K) := by
  intro pins s σ H x y v u Q I rx ry ⟨a, b, xs, ex, ey, h1, h2, q⟩
  subst ex ey
  cases rx
  cases ry
  obtain ⟨its, rv, ⟨o, n, ho, hc, hdn, hd⟩, _⟩ := I.list h1
  obtain ⟨jts, rv2, ⟨o2, n2, ho2, hc2, hdn2, hd2⟩, _⟩ := I.list h2
  have l1 := rv.length
  have l2 := rv2.length
  have A1 : s.heap.IsList a its.toArray := ⟨o, ho, hc, n, hd⟩
  have A2 : s.heap.IsList b jts.toArray := ⟨o2, ho2, hc2, n2, hd2⟩
  have hu' : X.A.units < cLine := by omega
  by_cases hx : xs.length = 0
  · have hq : Q (.bl false) H := by rw [hx] at q; exact q
    have e1 : its.length = 0 := by omega
    have e2 : jts.length = 0 := by rw [← l2]; rfl
    have z := SeqAt.RcNeAt.lists (e := fun _ => true) A1 A2 (by rw [List.size_toArray, List.size_toArray, e1, e2]) hu' (fun j j1 => absurd j1 (by rw [List.size_toArray, e1]; omega))
    have ez : (!(List.range its.toArray.size).all fun _ => true) = false := by rw [List.size_toArray, e1]; rfl
    rw [ez] at z
    exact z _ _ _ _ ⟨.bl false, H, I, rfl, hq⟩
  · have hq : Q (.bl true) H := by simp [hx] at q; exact q
    have e2 : jts.length = 0 := by rw [← l2]; rfl
    exact (SeqAt.RcNeAt.lists_lengths A1 A2 (by rw [List.size_toArray, List.size_toArray, e2]; simp; intro z; apply hx; rw [l1, z]; rfl) hu') _ _ _ _ ⟨.bl true, H, I, rfl, hq⟩
theorem ev_neE {K : PySem.W.Frag} {σ : L2.St} {H : Hp} {ta tb : TE} {p : Addr} {xs : List V} (ha : Ev ta σ H (.ref p)) (hx : SqL K H p xs) (hb : EvL tb σ H []) : Ev (tOp (rNeE K) ta tb) σ H (.bl (!decide (xs.length = 0))) := fun H1 e Q q =>
  ha H1 e _ fun H2 e2 => hb H2 (e.trans e2) _ fun r H3 _ e3 h3 => ⟨p, r, xs, rfl, rfl, ex_l ((e.trans e2).trans e3) hx, sq_of h3, q H3 (e2.trans e3)⟩
end Sw
namespace Sw
open PySem PySem.Spec PyProof.Rows L2 Evl
local macro_rules | `(tactic| walk_at "ev") => `(tactic| first
  | exact ev_c
  | exact ev_var rfl
  | ((with_reducible show Ev (tCB rMax2 _) _ _ _); exact ev_maxi (by walk_at "ev") (by walk_at "ev"))
  | ((with_reducible show Ev (tCB rMn _) _ _ _); exact ev_min2 (by walk_at "ev") (by walk_at "ev"))
  | ((with_reducible show Ev (tUn _ _) _ _ _); exact ev_un (by walk_at "ev") ru_neg)
  | ((with_reducible show Ev (tFld _ _ _) _ _ _); exact ev_fldK (by walk_at "ev") (by assumption))
  | ((with_reducible show Ev (tOp (rI0 _) _ _) _ _ _); exact ev_op (by walk_at "ev") (by walk_at "ev") rv_I0)
  | ((with_reducible show Ev (tOp rEq _ _) _ _ _); exact ev_op (by walk_at "ev") (by walk_at "ev") (rv_eq rfl))
  | ((with_reducible show Ev (tOp rNe _ _) _ _ _); exact ev_op (by walk_at "ev") (by walk_at "ev") (rv_ne rfl)))

/-! ### a list of rows: the rows may change, one by one -/
structure Sh (H : Hp) (S : Addr) (ad : List Addr) (g f : Nat → Int) : Prop where
  hs : H S = some (.lst (ad.map V.ref))
  row : ∀ i p, ad[i]? = some p → H p = some (.lst [.int (g i), .int (f i)])
  nd : ad.Nodup
  out : S ∉ ad
section
variable {K : PySem.W.Frag} {σ : L2.St} {H H' H0 : Hp} {S p l : Addr} {ad : List Addr} {f g f' g' : Nat → Int} {te tf ta tb tc : TE} {v u : V} {xs : List V} {D : Ends} {i j m : Nat}
theorem Sh.mono (h : Sh H S ad g f) (e : Ex H H') : Sh H' S ad g f := ⟨e _ _ h.hs, fun i p q => e _ _ (h.row i p q), h.nd, h.out⟩
theorem Sh.congr (h : Sh H S ad g f) (hg : ∀ i, i < ad.length → g' i = g i) (hf : ∀ i, i < ad.length → f' i = f i) : Sh H S ad g' f' := ⟨h.hs, fun i p q => by
  obtain ⟨lt, _⟩ := List.getElem?_eq_some_iff.mp q
  rw [hg i lt, hf i lt]; exact h.row i p q, h.nd, h.out⟩
theorem nd_at {i j : Nat} (nd : ad.Nodup) (hi : ad[i]? = some p) (hj : ad[j]? = some p) : i = j := by
  obtain ⟨li, ei⟩ := List.getElem?_eq_some_iff.mp hi
  obtain ⟨lj, ej⟩ := List.getElem?_eq_some_iff.mp hj
  exact (List.getElem_inj (h₀ := li) (h₁ := lj) nd).mp (by rw [ei, ej])
theorem Sh.ne (h : Sh H S ad g f) (hi : ad[i]? = some p) : S ≠ p := fun z => h.out (by rw [z]; exact List.mem_of_getElem? hi)
theorem Sh.set {a v : Int} (h : Sh H S ad g f) (hi : ad[i]? = some p) : Sh (upd H p (.lst [.int a, .int v])) S ad (fun j => if j = i then a else g j) (fun j => if j = i then v else f j) :=
  ⟨by rw [upd_ne (h.ne hi)]; exact h.hs, fun j q hj => by
    by_cases z : j = i
    · subst z
      rw [hi] at hj; cases hj
      simp only [if_true]
      exact upd_same
    · have n : q ≠ p := fun w => z (nd_at h.nd (by rw [← w]; exact hj) hi)
      rw [upd_ne n, if_neg z, if_neg z]; exact h.row j q hj, h.nd, h.out⟩
theorem ex_updN {N : Addr → Prop} {o : HO} (e : Ex (wn H N) H') (hN : N p) : Ex (wn H N) (upd H' p o) := fun b u q => by
  obtain ⟨nb, _⟩ := wn_some q
  rw [upd_ne (fun z => nb (by rw [z]; exact hN))]; exact e b u q
/-- xs[j], x = v, u -/
theorem s_subName (hl : H l = some (.lst xs)) (hv : Ev te σ H v) (hu : Ev tf σ H u) (ho : Ev ta σ H (.ref l)) (hi : Ev tb σ H (.int (j : Int))) (hj : j < xs.length) (k : ∀ H1, Ex H H1 → D.nx (σ.set m (some u)) (upd H1 l (.lst (xs.set j v)))) :
    tAsg (tTup (tCons te (tCons tf tNil))) (gTup K 2 (gCons (gSub ta tb rSetL) (gCons (gName m) gNil))) D σ H :=
  hv H (Ex.refl _) _ fun H1 e1 => hu H1 e1 _ fun H2 e2 => ⟨by show 2 ≤ sizeLine; decide, fun r hr => by
    have e3 := (e1.trans e2).trans (Ex.new (o := .tup [v, u]) hr)
    exact ⟨r, [v, u], rfl, st_of upd_same, rfl, _, _, rfl, ho _ e3 _ fun H3 e4 => hi H3 (e3.trans e4) _ fun H4 e5 =>
      ⟨l, xs, (j : Int), j, rfl, rfl, ((e3.trans e4).trans e5) l _ hl, ixN_nat hj, _, _, rfl, rfl, k H4 ((e3.trans e4).trans e5)⟩⟩⟩
/-- x = y + xs.pop(0)[1] -/
theorem s_popRow {o a n : Int} {rest : List V} (hS : H S = some (.lst (.ref p :: rest))) (hp : H p = some (.lst [.int a, .int n])) (ne : p ≠ S) (hA : Ev ta σ H (.int o)) (hB : Ev tb σ H (.ref S)) (hz : ∀ G, Ev tc σ G (.int 0)) (h1 : ∀ G, Ev tf σ G (.int 1))
    (k : ∀ H1 H2, Ex H H1 → Ex (upd H1 S (.lst rest)) H2 → D.nx (σ.set m (some (.int (o + n)))) H2) :
    tAsg (tOp (rI0 fun i j => .int (i + j)) ta (tOp (rIxL K) (tBM K "list" rPopAt tb (tCons tc tNil)) tf)) (gName m) D σ H :=
  hA H (Ex.refl _) _ fun H1 e1 => hB H1 e1 _ fun H2 e2 => ⟨Or.inl ⟨rfl, _, sq_of ((e1.trans e2) _ _ hS)⟩, hz H2 H2 (Ex.refl _) _ fun H3 e3 =>
    ⟨S, _, 0, 0, .ref p, rfl, rfl, ((e1.trans e2).trans e3) _ _ hS, by decide, by decide, by unfold seqIndex?; simp, rfl, h1 _ _ (Ex.refl _) _ fun H4 e4 =>
      ⟨p, [.int a, .int n], 1, .int n, rfl, rfl, sq_of (e4 _ _ (by rw [upd_ne ne]; exact ((e1.trans e2).trans e3) _ _ hp)), rfl, o, n, rfl, rfl, k H3 H4 ((e1.trans e2).trans e3) e4⟩⟩⟩
end
variable {P : Program} {w : World} {K : PySem.W.Frag} {mg : Str → Option Value} {base : Heap} {Z : Ad}
def cutF (f : Nat → Int) (c : Int) (i : Nat) : Int := f i - min (max 0 (c - psum f i)) (f i)
def sp_sold : Sp := fun vs H Q _ => ∃ (S : Addr) (ad : List Addr) (g f : Nat → Int) (c : Int), vs = [.ref S, .int c] ∧ Sh H S ad g f ∧ ad.length ≤ 1000 ∧ 0 ≤ c ∧ (∀ i, 0 ≤ f i) ∧
  ∀ H', Ex (wn H fun b => b ∈ ad) H' → Sh H' S ad g (cutF f c) → Q (.int (c - max 0 (c - psum f ad.length))) H'
theorem ok__law_sold (T : Txt K mg Z) : FnOk P w K mg base CX0 1 Z.f__law_sold Z.d__law_sold p__law_sold sp_sold := by
  refine T.F__law_sold.ok sc__law_sold (fun vs H Q E h => ?_) (fun cdv Ar outer s H vs Q E hr h => ?_)
  · obtain ⟨S, ad, g, f, c, rfl, _⟩ := h
    rfl
  · obtain ⟨S, ad, g, f, c, rfl, hS, hn, c0, f0, k⟩ := h
    have hl : ((ad.map V.ref).length : Int) = (ad.length : Int) := by rw [List.length_map]
    refine ⟨_, (pss_cons (ps_set (i := 2) sc__law_sold.nd rfl (Or.inl rfl) (pv 1))
      (pss_cons (ps_for PassesOwn.never rfl (pi_range1 (by rfl) T.b_range (pa_cons (pe_callB (r := rLenS K) (call_len_seq) (by rfl) T.b_len boot_len (pa_cons (pv 0) pa_nil)) pa_nil)) (pg_name (i := 3) sc__law_sold.nd rfl (Or.inl rfl)) (pss_cons (ps_set (i := 4) sc__law_sold.nd rfl (Or.inl rfl) (pe_callB (r := rMn) (call_min2 rfl) (by rfl) T.b_min boot_min (pa_cons (pv 2) (pa_cons (pe_ix (r := rIxL K) ix_list (pe_ix (r := rIxL K) ix_list (pv 0) (pv 3) (fun _ _ => rfl)) pe_int (fun _ _ => rfl)) pa_nil))))
      (pss_one (ps_asg (pe_tup (pa_cons (pe_op op_sub (pe_ix (r := rIxL K) ix_list (pe_ix (r := rIxL K) ix_list (pv 0) (pv 3) (fun _ _ => rfl)) pe_int (fun _ _ => rfl)) (pv 4)) (pa_cons (pe_op op_sub (pv 2) (pv 4)) pa_nil))) (by exact (pg_tupK K (n := 2) rfl rfl (pgs_cons (pg_sub (pe_ix (r := rIxL K) ix_list (pv 0) (pv 3) (fun _ _ => rfl)) pe_int set_list) (pgs_cons (pg_name (i := 2) sc__law_sold.nd rfl (Or.inl rfl)) pgs_nil))))))))
      (pss_one (ps_ret (pe_op op_sub (pv 1) (pv 2)))))), ?_⟩
    refine q_asg (ev_var rfl) fun H1 e1 => ?_
    refine q_forR1 (n := (ad.length : Int)) (ea_cons (Ev.int_eq (ev_len (ev_var rfl) (sq_of (e1 _ _ hS.hs))) hl) ea_nil) ⟨by omega, by omega⟩ (fun i σ' H' => (∃ x3 x4, σ' = [some (.ref S), some (.int c), some (.int (max 0 (c - psum f i))), x3, x4]) ∧ Ex (wn H fun b => b ∈ ad) H' ∧ Sh H' S ad g (fun j => if j < i then cutF f c j else f j))
      (fun H2 e2 => ⟨⟨none, none, by rw [show max 0 (c - psum f 0) = c by show max 0 (c - 0) = c; omega]; rfl⟩, wn_ex.trans (e1.trans e2), (hS.mono (e1.trans e2)).congr (fun _ _ => rfl) fun i _ => if_neg (Nat.not_lt_zero i)⟩) ?_ ?_
    · rintro i σ' H' hi ⟨⟨x3, x4, rfl⟩, eN, hS'⟩
      have hlt : i < ad.length := by omega
      obtain ⟨p, hp⟩ : ∃ p, ad[i]? = some p := ⟨_, List.getElem?_eq_getElem hlt⟩
      have hr := hS'.row i p hp
      rw [if_neg (Nat.lt_irrefl i)] at hr
      have at_ : atI (ad.map V.ref) (i : Int) = some (.ref p) := atI_nat (by rw [List.getElem?_map, hp]; rfl)
      have ev1 : ∀ {σ : L2.St} {G : Hp} {ta tb tc : TE}, Ex H' G → Ev ta σ G (.ref S) → Ev tb σ G (.int (i : Int)) → Ev tc σ G (.int 1) → Ev (tOp (rIxL K) (tOp (rIxL K) ta tb) tc) σ G (.int (f i)) := fun e h1 h2 h3 => ev_ixL (ev_ixL h1 (sq_of (e _ _ hS'.hs)) h2 at_) (sq_of (e _ _ hr)) h3 rfl
      refine q_asg (ev_min2 (ev_var rfl) (ev1 (Ex.refl _) (ev_var rfl) (ev_var rfl) ev_c)) fun H2 e2 => ?_
      refine s_subName (j := 1) (e2 _ _ hr) (ev_op (ev1 e2 (ev_var rfl) (ev_var rfl) ev_c) (ev_var rfl) rv_I0) (ev_op (ev_var rfl) (ev_var rfl) rv_I0) (ev_ixL (ev_var rfl) (sq_of (e2 _ _ hS'.hs)) (ev_var rfl) at_) ev_c (by show 1 < 2; decide) fun H3 e3 => ?_
      have fi := f0 i
      refine ⟨⟨some (.int (i : Int)), some (.int (min (max 0 (c - psum f i)) (f i))), ?_⟩, ex_updN (eN.trans (e2.trans e3)) (List.mem_of_getElem? hp), ?_⟩
      · have e : max 0 (c - psum f i) - min (max 0 (c - psum f i)) (f i) = max 0 (c - psum f (i + 1)) := by
          show _ = max 0 (c - (psum f i + f i)); omega
        rw [← e]; rfl
      · refine (((hS'.mono (e2.trans e3)).set (a := g i) (v := f i - min (max 0 (c - psum f i)) (f i)) hp)).congr (fun j hj => ?_) fun j hj => ?_
        · by_cases z : j = i
          · rw [if_pos z, z]
          · rw [if_neg z]
        · by_cases z : j = i
          · rw [if_pos z, if_pos (by omega), z]; rfl
          · rw [if_neg z]
            by_cases w : j < i
            · rw [if_pos w, if_pos (by omega)]
            · rw [if_neg w, if_neg (by omega)]
    · rintro σ' H' ⟨⟨x3, x4, rfl⟩, eN, hS'⟩
      rw [Int.toNat_natCast] at hS' ⊢
      exact s_ret (ev_op (ev_var rfl) (ev_var rfl) rv_I0) fun H2 e2 => k H2 (eN.trans e2) ((hS'.mono e2).congr (fun _ _ => rfl) fun i hi => (if_pos hi).symm)
def sp_closed : Sp := fun vs H Q _ => ∃ (S : Addr) (ad : List Addr) (a0 : Int) (f : Nat → Int) (life : Int), vs = [.ref S, .int life] ∧ Sh H S ad (fun i => a0 - (i : Int)) f ∧ ad.length ≤ 1000 ∧
  ∀ (k : Nat) H', k ≤ ad.length → (∀ i, i < k → life ≤ a0 + 1 - (i : Int) ∨ f i = 0) → (k < ad.length → ¬ life ≤ a0 + 1 - (k : Int)) → Ex (wn H fun b => b = S ∨ b ∈ ad) H' → Sh H' S (ad.drop k) (fun i => a0 + 1 - (k : Int) - (i : Int)) (fun i => f (k + i)) → Q (.int (psum f k)) H'
theorem ok__law_closed (T : Txt K mg Z) : FnOk P w K mg base CX0 1 Z.f__law_closed Z.d__law_closed p__law_closed sp_closed := by
  refine T.F__law_closed.ok sc__law_closed (fun vs H Q E h => ?_) (fun cdv Ar outer s H vs Q E hr h => ?_)
  · obtain ⟨S, ad, a0, f, life, rfl, _⟩ := h
    rfl
  · obtain ⟨S, ad, a0, f, life, rfl, hS, hn, k⟩ := h
    refine ⟨_, (pss_cons (ps_set (i := 2) sc__law_closed.nd rfl (Or.inl rfl) pe_int)
      (pss_cons (ps_for PassesOwn.never rfl (pi_listK K rfl (pv 0)) (pg_name (i := 3) sc__law_closed.nd rfl (Or.inl rfl)) (pss_one (ps_asg (pe_op op_add (pe_ix (r := rIxL K) ix_list (pv 3) pe_int (fun _ _ => rfl)) pe_int) (pg_sub (pv 3) pe_int set_list))))
      (pss_cons (ps_while PassesOwn.never (PW.pt (pw_and (pt_cmpR (op_neE hr.units) (pv 0) (pe_lst pa_nil) (nomark _)) (pw_and1 (PW.pt (pw_or (pt_cmpR op_ge (pe_ix (r := rIxL K) ix_list (pe_ix (r := rIxL K) ix_list (pv 0) pe_int (fun _ _ => rfl)) pe_int (fun _ _ => rfl)) (pv 1) (nomark _)) (pw_or1 (pt_cmpR op_eq (pe_ix (r := rIxL K) ix_list (pe_ix (r := rIxL K) ix_list (pv 0) pe_int (fun _ _ => rfl)) pe_int (fun _ _ => rfl)) pe_int (nomark _)))))))) (pss_one (ps_set (i := 2) sc__law_closed.nd rfl (Or.inl rfl) (pe_op op_add (pv 2) (pe_ix (r := rIxL K) ix_list (pe_bm PySem.F.plainAttrs_list PySem.F.slot_list_pop PySem.F.type_list_pop mt_popAt (pv 0) (pa_cons pe_int pa_nil)) pe_int (fun _ _ => rfl))))))
      (pss_one (ps_ret (pv 2)))))), ?_⟩
    refine q_asg ev_c fun H1 e1 => ?_
    refine q_forLn (ev_var rfl) (sq_of (e1 _ _ hS.hs)) (fun i σ' H' => (∃ x3, σ' = [some (.ref S), some (.int life), some (.int 0), x3]) ∧ Ex (wn H fun b => b = S ∨ b ∈ ad) H' ∧ Sh H' S ad (fun j => if j < i then a0 + 1 - (j : Int) else a0 - (j : Int)) f)
      (fun H2 e2 => ⟨⟨_, rfl⟩, wn_ex.trans (e1.trans e2), (hS.mono (e1.trans e2)).congr (fun i _ => if_neg (Nat.not_lt_zero i)) fun _ _ => rfl⟩) (fun _ _ _ _ q => sq_of q.2.2.hs) ?_ ?_
    · rintro i x σ' H' hx ⟨⟨x3, rfl⟩, eN, hS'⟩
      rw [List.getElem?_map] at hx
      obtain ⟨p, hp, rfl⟩ := Option.map_eq_some_iff.mp hx
      have hr := hS'.row i p hp
      rw [if_neg (Nat.lt_irrefl i)] at hr
      refine s_setL (j := 0) hr (ev_op (ev_ixL (ev_var rfl) (sq_of hr) ev_c rfl) ev_c rv_I0) (ev_var rfl) ev_c (by show 0 < 2; decide) fun H3 e3 => ?_
      refine ⟨⟨_, rfl⟩, ex_updN (eN.trans e3) (.inr (List.mem_of_getElem? hp)), ?_⟩
      refine ((hS'.mono e3).set (a := a0 - (i : Int) + 1) (v := f i) hp).congr (fun j hj => ?_) fun j hj => ?_
      · by_cases z : j = i
        · rw [if_pos z, if_pos (by omega), z]; omega
        · rw [if_neg z]
          by_cases w : j < i
          · rw [if_pos w, if_pos (by omega)]
          · rw [if_neg w, if_neg (by omega)]
      · by_cases z : j = i
        · rw [if_pos z, z]
        · rw [if_neg z]
    rintro σ' H' ⟨⟨x3, rfl⟩, eN, hS'⟩
    have hS1 : Sh H' S ad (fun j => a0 + 1 - (j : Int)) f := hS'.congr (fun j hj => by rw [if_pos (by rw [List.length_map]; exact hj)]) fun _ _ => rfl
    refine q_while (fun m σ' H' => ∃ j : Nat, m = ad.length - j ∧ j ≤ ad.length ∧ (∀ i, i < j → life ≤ a0 + 1 - (i : Int) ∨ f i = 0) ∧ σ' = [some (.ref S), some (.int life), some (.int (psum f j)), x3] ∧ Ex (wn H fun b => b = S ∨ b ∈ ad) H' ∧ Sh H' S (ad.drop j) (fun i => a0 + 1 - (j : Int) - (i : Int)) (fun i => f (j + i))) ad.length
      ⟨0, rfl, Nat.zero_le _, fun i hi => absurd hi (Nat.not_lt_zero i), rfl, eN, hS1.congr (fun i _ => by omega) fun i _ => by rw [Nat.zero_add]⟩ ?_
    rintro m σ' H' ⟨j, rfl, hj, hc, rfl, eN, hS'⟩
    have hlen : ((ad.drop j).map V.ref).length = ad.length - j := by rw [List.length_map, List.length_drop]
    have nE : ∀ {G : Hp}, Ex H' G → Ev _ _ G _ := fun {G} e => ev_neE (K := K) (σ := [some (.ref S), some (.int life), some (.int (psum f j)), x3]) (ev_var (i := 0) rfl) (sq_of (e _ _ hS'.hs)) (el_lst ea_nil (by decide))
    by_cases z : j < ad.length
    · obtain ⟨p, hp⟩ : ∃ p, (ad.drop j)[0]? = some p := ⟨_, List.getElem?_eq_getElem (by rw [List.length_drop]; omega)⟩
      have hr := hS'.row 0 p hp
      have er : ad.drop j = p :: ad.drop (j + 1) := by
        rw [List.getElem?_drop, Nat.add_zero] at hp
        obtain ⟨lt, e⟩ := List.getElem?_eq_some_iff.mp hp
        rw [List.drop_eq_getElem_cons lt, e]
      have hS0 := hS'.hs
      rw [er] at hS0
      have hr' : H' p = some (.lst [.int (a0 + 1 - (j : Int)), .int (f j)]) := by
        have e1 : a0 + 1 - (j : Int) - ((0 : Nat) : Int) = a0 + 1 - (j : Int) := by omega
        have e2 : f (j + 0) = f j := rfl
        rw [e1, e2] at hr; exact hr
      have ev1 : ∀ {σ : L2.St} {G : Hp} {ta tb tc : TE} {q : Int} {v : V}, Ex H' G → Ev ta σ G (.ref S) → Ev tb σ G (.int 0) → Ev tc σ G (.int q) → atI [V.int (a0 + 1 - (j : Int)), .int (f j)] q = some v → Ev (tOp (rIxL K) (tOp (rIxL K) ta tb) tc) σ G v := fun e h1 h2 h3 h4 => ev_ixL (ev_ixL h1 (sq_of (e _ _ hS0)) h2 (by exact atI_nat (j := 0) rfl)) (sq_of (e _ _ hr')) h3 h4
      refine ⟨decide (life ≤ a0 + 1 - (j : Int)) || decide (f j = 0), et_is (et_and (et_test (nE (Ex.refl _))) fun _ => et_or (et_test (ev_op (ev1 (Ex.refl _) (ev_var rfl) ev_c ev_c rfl) (ev_var rfl) rv_I0)) fun _ => et_test (ev_op (ev1 (Ex.refl _) (ev_var rfl) ev_c ev_c rfl) ev_c (rv_eq rfl))) ?_, fun hb H5 e5 => ?_, fun hb H5 e5 => ?_⟩
      · have ne : ¬ ad.length - j = 0 := by omega
        have w : (V.int (f j) = V.int 0) ↔ f j = 0 := ⟨fun z => by injection z, fun z => by rw [z]⟩
        rw [hlen]
        simp [ne, w]
      · refine ⟨fun σ2 H2 => ∃ m', m' < ad.length - j ∧ ∃ j : Nat, m' = ad.length - j ∧ j ≤ ad.length ∧ (∀ i, i < j → life ≤ a0 + 1 - (i : Int) ∨ f i = 0) ∧ σ2 = [some (.ref S), some (.int life), some (.int (psum f j)), x3] ∧ Ex (wn H fun b => b = S ∨ b ∈ ad) H2 ∧ Sh H2 S (ad.drop j) (fun i => a0 + 1 - (j : Int) - (i : Int)) (fun i => f (j + i)), fun _ _ h => h, ?_⟩
        refine s_popRow (p := p) (rest := (ad.drop (j + 1)).map V.ref) (e5 _ _ hS0) (e5 _ _ hr') (fun w => hS'.out (by rw [er, ← w]; exact List.mem_cons_self)) (ev_var rfl) (ev_var rfl) (fun _ => ev_c) (fun _ => ev_c) fun H6 H7 e6 e7 => ?_
        refine ⟨_, (by omega : ad.length - (j + 1) < ad.length - j), j + 1, rfl, by omega, fun i hi => ?_, rfl, (ex_updN (eN.trans (e5.trans e6)) (.inl rfl)).trans e7, ?_⟩
        · by_cases q : i = j
          · rw [q]; simpa using hb
          · exact hc i (by omega)
        · have nd := hS'.nd
          have out := hS'.out
          rw [er] at nd out
          refine ⟨e7 _ _ upd_same, fun i q hq => e7 _ _ ?_, (List.nodup_cons.mp nd).2, fun w => out (List.mem_cons_of_mem _ w)⟩
          have hq2 : (ad.drop j)[i + 1]? = some q := by rw [er]; exact hq
          have ne : q ≠ S := fun w => hS'.out (by rw [← w]; exact List.mem_of_getElem? hq2)
          have z := hS'.row (i + 1) q hq2
          rw [upd_ne ne]
          have e1 : a0 + 1 - ((j + 1 : Nat) : Int) - (i : Int) = a0 + 1 - (j : Int) - ((i + 1 : Nat) : Int) := by omega
          have e2 : f (j + 1 + i) = f (j + (i + 1)) := by rw [show j + 1 + i = j + (i + 1) by omega]
          show H6 q = some (.lst [.int (a0 + 1 - ((j + 1 : Nat) : Int) - (i : Int)), .int (f (j + 1 + i))])
          rw [e1, e2]
          exact (e5.trans e6) _ _ z
      · have hb' : ¬ life ≤ a0 + 1 - (j : Int) := by
          have := hb; simp at this; omega
        exact s_ret (ev_var rfl) fun H6 e6 => k j H6 hj hc (fun _ => hb') (eN.trans (e5.trans e6)) (hS'.mono (e5.trans e6))
    · have ej : j = ad.length := by omega
      refine ⟨false, et_is (et_and (b := false) (et_test (nE (Ex.refl _))) fun hb => ?_) ?_, (fun hb => nomatch hb), fun _ H5 e5 => ?_⟩
      · rw [hlen] at hb
        simp [show ad.length - j = 0 by omega] at hb
      · rw [hlen]
        simp [show ad.length - j = 0 by omega]
      · exact s_ret (ev_var rfl) fun H6 e6 => k j H6 hj hc (fun q => absurd q z) (eN.trans (e5.trans e6)) (hS'.mono (e5.trans e6))
end Sw
namespace Sw
/-! ### a shelf by days, whatever is baked -/
structure ShM (B C S : Nat → Int) (L : Nat) : Prop where
  b0 : ∀ t, 0 ≤ B t
  c0 : ∀ t, 0 ≤ C t
  s0 : ∀ t, 0 ≤ S t
  sz : S 0 = 0
  l0 : 1 ≤ L
  nx : ∀ t, S (t + 1) = min (max 0 (S t + B t - C t)) (psum B (t + 1) - psum B (t + 2 - L))
section
variable {B C S : Nat → Int} {L : Nat}
theorem pB_s (j : Nat) : psum B (j + 1) = psum B j + B j := rfl
theorem pB_mono (h : ∀ t, 0 ≤ B t) (i : Nat) : ∀ n, psum B i ≤ psum B (i + n)
  | 0 => Int.le_refl _
  | n + 1 => by
    have := pB_mono h i n
    have := h (i + n)
    have e : psum B (i + (n + 1)) = psum B (i + n) + B (i + n) := rfl
    omega
theorem pB_le (h : ∀ t, 0 ≤ B t) {i j : Nat} (hij : i ≤ j) : psum B i ≤ psum B j := by
  have := pB_mono h i (j - i)
  rwa [show i + (j - i) = j by omega] at this
def topM (B C S : Nat → Int) (t : Nat) : Int := max 0 (S t + B t - C t)
def fromM (B S : Nat → Int) (t j : Nat) : Int := min (S t) (psum B t - psum B j)
def rowLM (B S : Nat → Int) (t j : Nat) : Int := fromM B S t j - fromM B S t (j + 1)
def rowBM (B S : Nat → Int) (t e i : Nat) : Int := if e + i < t then rowLM B S t (e + i) else B t
def rowSM (B C S : Nat → Int) (t e i : Nat) : Int := rowBM B S t e i - min (max 0 (C t - psum (rowBM B S t e) i)) (rowBM B S t e i)
theorem rowLM_nn (m : ShM B C S L) (t j : Nat) : 0 ≤ rowLM B S t j := by
  have := pB_s (B := B) j
  have := m.b0 j
  unfold rowLM fromM
  omega
theorem rowBM_nn (m : ShM B C S L) (t e i : Nat) : 0 ≤ rowBM B S t e i := by
  unfold rowBM
  split
  · exact rowLM_nn m _ _
  · exact m.b0 t
section
variable {t e : Nat}
theorem rowLM_sum (m : ShM B C S L) (he : e ≤ t) (hs : S t ≤ psum B t - psum B e) : ∀ i, e + i ≤ t →
    psum (fun i => rowLM B S t (e + i)) i = S t - min (S t) (psum B t - psum B (e + i))
  | 0, _ => by
    show (0 : Int) = _
    rw [show e + 0 = e from rfl]; omega
  | i + 1, h => by
    have ih := rowLM_sum m he hs i (by omega)
    show psum _ i + rowLM B S t (e + i) = _
    rw [ih, show e + (i + 1) = e + i + 1 by omega]
    unfold rowLM fromM
    omega
theorem rowBM_sum (m : ShM B C S L) (he : e ≤ t) (hs : S t ≤ psum B t - psum B e) : ∀ i, e + i ≤ t + 1 →
    psum (rowBM B S t e) i = S t + B t - min (S t + B t) (psum B (t + 1) - psum B (e + i))
  | 0, _ => by
    have := pB_s (B := B) t
    show (0 : Int) = _
    rw [show e + 0 = e from rfl]; omega
  | i + 1, h => by
    have ih := rowBM_sum m he hs i (by omega)
    have s0 := m.s0 t
    have b0 := m.b0 t
    show psum _ i + rowBM B S t e i = _
    have s1 := pB_s (B := B) t
    have s2 := pB_s (B := B) (e + i)
    have b2 := m.b0 (e + i)
    rw [ih, show e + (i + 1) = e + i + 1 by omega]
    unfold rowBM
    by_cases h1 : e + i < t
    · rw [if_pos h1]
      have m := pB_le m.b0 (show e + i + 1 ≤ t by omega)
      unfold rowLM fromM
      omega
    · rw [if_neg h1]
      have e1 : e + i = t := by omega
      rw [e1] at s2 ⊢
      omega
theorem rowSM_is (m : ShM B C S L) (he : e ≤ t) (hs : S t ≤ psum B t - psum B e) (i : Nat) (hi : e + i ≤ t) :
    rowSM B C S t e i = min (topM B C S t) (psum B (t + 1) - psum B (e + i)) - min (topM B C S t) (psum B (t + 1) - psum B (e + i + 1)) := by
  have a := rowBM_sum m he hs i (by omega)
  have b := rowBM_sum m he hs (i + 1) (by omega)
  have s : psum (rowBM B S t e) (i + 1) = psum (rowBM B S t e) i + rowBM B S t e i := rfl
  rw [show e + (i + 1) = e + i + 1 by omega] at b
  have d := m.c0 t
  have s2 := pB_s (B := B) (e + i)
  have b2 := m.b0 (e + i)
  have mm := pB_le m.b0 (show e + i + 1 ≤ t + 1 by omega)
  have s0 := m.s0 t
  unfold rowSM topM
  rw [a]
  generalize rowBM B S t e i = r at *
  generalize psum (rowBM B S t e) i = u at *
  generalize psum (rowBM B S t e) (i + 1) = u' at *
  omega
theorem rowSM_nn (m : ShM B C S L) (t e i : Nat) : 0 ≤ rowSM B C S t e i := by
  have := rowBM_nn m t e i
  unfold rowSM
  omega
theorem rowSM_sum (m : ShM B C S L) (he : e ≤ t) (hs : S t ≤ psum B t - psum B e) : ∀ k, e + k ≤ t + 1 →
    psum (rowSM B C S t e) k = topM B C S t - min (topM B C S t) (psum B (t + 1) - psum B (e + k))
  | 0, _ => by
    have := pB_s (B := B) t
    have d := m.c0 t
    have bb := m.b0 t
    have mm := pB_le m.b0 he
    show (0 : Int) = _
    rw [show e + 0 = e from rfl]
    unfold topM
    omega
  | k + 1, h => by
    show psum _ k + _ = _
    rw [rowSM_sum m he hs k (by omega), rowSM_is m he hs k (by omega), show e + (k + 1) = e + k + 1 by omega]
    omega
/-- a day, sold -/
theorem dayM_sold (m : ShM B C S L) (he : e ≤ t) (hs : S t ≤ psum B t - psum B e) :
    C t - max 0 (C t - psum (rowBM B S t e) (t + 1 - e)) = min (S t + B t) (C t) := by
  have a := rowBM_sum m he hs (t + 1 - e) (by omega)
  rw [show e + (t + 1 - e) = t + 1 by omega] at a
  have s0 := m.s0 t
  have b0 := m.b0 t
  have c0 := m.c0 t
  rw [a]; omega
/-- a day, closed: k rows go -/
theorem dayM_closed (m : ShM B C S L) (he : e ≤ t) (hs : S t ≤ psum B t - psum B e) {k : Nat} (hk : k ≤ t + 1 - e)
    (h1 : ∀ i, i < k → (L : Int) ≤ ((t - e : Nat) : Int) + 1 - (i : Int) ∨ rowSM B C S t e i = 0) (h2 : k < t + 1 - e → ¬ ((L : Int) ≤ ((t - e : Nat) : Int) + 1 - (k : Int))) :
    psum (rowSM B C S t e) k = S t + B t - min (S t + B t) (C t) - S (t + 1) ∧ S (t + 1) ≤ psum B (t + 1) - psum B (e + k) ∧ ∀ i, e + k + i < t + 1 → rowSM B C S t e (k + i) = rowLM B S (t + 1) (e + k + i) := by
  have n := m.nx t
  have l0 := m.l0
  have sm := rowSM_sum m he hs k (by omega)
  have ge : t + 2 - L ≤ e + k := by
    by_cases z : k < t + 1 - e
    · have := h2 z; omega
    · omega
  have go : ∀ q, t + 2 - L + q ≤ e + k → e ≤ t + 2 - L + q → min (topM B C S t) (psum B (t + 1) - psum B (e + k)) = min (topM B C S t) (psum B (t + 1) - psum B (t + 2 - L + q)) := by
    intro q
    generalize hr : e + k - (t + 2 - L + q) = r
    induction r generalizing q with
    | zero => intro a b; rw [show t + 2 - L + q = e + k by omega]
    | succ r ih =>
      intro a b
      rw [ih (q + 1) (by omega) (by omega) (by omega)]
      have z := h1 (t + 2 - L + q - e) (by omega)
      have w := rowSM_is m he hs (t + 2 - L + q - e) (by omega)
      rw [show e + (t + 2 - L + q - e) = t + 2 - L + q by omega] at w
      rcases z with z | z
      · omega
      · rw [show t + 2 - L + (q + 1) = t + 2 - L + q + 1 by omega]
        omega
  have eq : min (topM B C S t) (psum B (t + 1) - psum B (e + k)) = S (t + 1) := by
    rw [n]
    show _ = min (topM B C S t) _
    by_cases z : e ≤ t + 2 - L
    · exact go 0 (by omega) (by omega)
    · have q := go (e - (t + 2 - L)) (by omega) (by omega)
      rw [show t + 2 - L + (e - (t + 2 - L)) = e by omega] at q
      rw [q]
      have mm := pB_le m.b0 (show t + 2 - L ≤ e by omega)
      have s := pB_s (B := B) t
      have d := m.c0 t
      have bb := m.b0 t
      have m2 := pB_le m.b0 he
      unfold topM
      omega
  have s0 := m.s0 t
  have b0 := m.b0 t
  have d0 := m.c0 t
  refine ⟨?_, by omega, fun i hi => ?_⟩
  · rw [sm, eq]
    unfold topM
    omega
  · have w := rowSM_is m he hs (k + i) (by omega)
    rw [show e + (k + i) = e + k + i by omega] at w
    have m1 := pB_le m.b0 (show e + k ≤ e + k + i by omega)
    have m2 := pB_le m.b0 (show e + k ≤ e + k + i + 1 by omega)
    rw [w]
    unfold rowLM fromM
    omega
end
end
/-! ### what a rule gives is such a shelf -/
section
variable {rk : RK} {ds : List Int} {L : Nat}
def bakR (rk : RK) (ds : List Int) (L t : Nat) : Int := rbak rk t (rst rk ds L t)
def stR (rk : RK) (ds : List Int) (L t : Nat) : Int := (rst rk ds L t).st
theorem rc_is (hL : 1 ≤ L) (t : Nat) : (rst rk ds L t).rc = (List.range L).map fun i => if i < t then bakR rk ds L (t - 1 - i) else 0 := by
  induction t with
  | zero =>
    show List.replicate L 0 = _
    refine List.ext_getElem (by simp) fun i h1 h2 => ?_
    simp
  | succ t ih =>
    show bakR rk ds L t :: (rst rk ds L t).rc.dropLast = _
    rw [ih]
    obtain ⟨M, rfl⟩ : ∃ M, L = M + 1 := ⟨L - 1, by omega⟩
    have e : (List.map (fun i => if i < t then bakR rk ds (M + 1) (t - 1 - i) else 0) (List.range (M + 1))).dropLast = (List.range M).map fun i => if i < t then bakR rk ds (M + 1) (t - 1 - i) else 0 := by
      rw [List.range_succ, List.map_append, List.map_cons, List.map_nil, List.dropLast_concat]
    rw [e, List.range_succ_eq_map, List.map_cons, List.map_map]
    rw [if_pos (by omega), show t + 1 - 1 - 0 = t by omega]
    congr 1
    refine List.map_congr_left fun i _ => ?_
    show (if i < t then bakR rk ds (M + 1) (t - 1 - i) else 0) = if i + 1 < t + 1 then bakR rk ds (M + 1) (t + 1 - 1 - (i + 1)) else 0
    rw [show t + 1 - 1 - (i + 1) = t - 1 - i by omega]
    by_cases z : i < t
    · rw [if_pos z, if_pos (by omega)]
    · rw [if_neg z, if_neg (by omega)]
theorem sum_back (f : Nat → Int) (m : Nat) : ∀ n : Nat, ((List.range n).map fun i => if i < m then f (m - 1 - i) else 0).sum = psum f m - psum f (m - n)
  | 0 => by simp
  | n + 1 => by
    rw [List.range_succ, List.map_append, List.sum_append, sum_back f m n]
    simp only [List.map_cons, List.map_nil, List.sum_cons, List.sum_nil, Int.add_zero]
    by_cases z : n < m
    · rw [if_pos z]
      have e1 : m - n = (m - 1 - n) + 1 := by omega
      have e2 : m - (n + 1) = m - 1 - n := by omega
      have e3 : psum f (m - n) = psum f (m - 1 - n) + f (m - 1 - n) := by rw [e1]; rfl
      rw [e3, e2]; omega
    · rw [if_neg z]
      have e1 : m - n = 0 := by omega
      have e2 : m - (n + 1) = 0 := by omega
      rw [e1, e2]; omega
theorem rule_sh (ok : rk.ok) (hL : 1 ≤ L) (hd : ∀ x ∈ ds, 0 ≤ x ∧ x ≤ 1000000000) : ShM (bakR rk ds L) (dem ds) (stR rk ds L) L where
  b0 t := bake_nn ok _ _ _
  c0 t := (dem_nn hd t).1
  s0 t := (rst_nn ok hd t).1
  sz := rfl
  l0 := hL
  nx t := by
    show min (rlef rk ds t (rst rk ds L t)) (rrec rk t (rst rk ds L t)).dropLast.sum = _
    have e : rrec rk t (rst rk ds L t) = (rst rk ds L (t + 1)).rc := rfl
    have es : (rrec rk t (rst rk ds L t)).dropLast.sum = psum (bakR rk ds L) (t + 1) - psum (bakR rk ds L) (t + 2 - L) := by
      rw [e, rc_is hL]
      obtain ⟨M, rfl⟩ : ∃ M, L = M + 1 := ⟨L - 1, by omega⟩
      rw [List.range_succ, List.map_append, List.map_cons, List.map_nil, List.dropLast_concat, sum_back, show t + 1 - M = t + 2 - (M + 1) by omega]
    rw [es]
    congr 1
    unfold rlef rsol stR bakR
    omega
/-- the sold of a day, the thrown of a day -/
theorem rrow_is (rk : RK) (ds : List Int) (L t : Nat) : rrow rk ds L t = [bakR rk ds L t, min (stR rk ds L t + bakR rk ds L t) (dem ds t), dem ds t - min (stR rk ds L t + bakR rk ds L t) (dem ds t), stR rk ds L t + bakR rk ds L t - min (stR rk ds L t + bakR rk ds L t) (dem ds t) - stR rk ds L (t + 1)] := rfl
theorem bak_ref {g : Int} (t : Nat) : bakR (.ref g) ds L t = max 0 (g - stR (.ref g) ds L t) := rfl
theorem bak_fix {a : Int} (t : Nat) : bakR (.fix a) ds L t = a := rfl
theorem bak_sol0 {a m : Int} : bakR (.sol a m) ds L 0 = a := rfl
theorem bak_solS {a m : Int} (t : Nat) : bakR (.sol a m) ds L (t + 1) = min (max 0 (min (stR (.sol a m) ds L t + bakR (.sol a m) ds L t) (dem ds t) + m)) 1000000000 := by
  show (if t + 1 = 0 then a else max 0 (min 1000000000 ((rst (.sol a m) ds L (t + 1)).so + m))) = _
  rw [if_neg (by omega)]
  have e : (rst (.sol a m) ds L (t + 1)).so = min (stR (.sol a m) ds L t + bakR (.sol a m) ds L t) (dem ds t) := rfl
  rw [e]; omega
end
end Sw
namespace Sw
open PySem PySem.Spec PyProof.Rows L2 Evl GnX
local macro_rules | `(tactic| walk_at "ev") => `(tactic| first
  | exact ev_c
  | exact ev_var rfl
  | ((with_reducible show Ev (tCB rMax2 _) _ _ _); exact ev_maxi (by walk_at "ev") (by walk_at "ev"))
  | ((with_reducible show Ev (tCB rMn _) _ _ _); exact ev_min2 (by walk_at "ev") (by walk_at "ev"))
  | ((with_reducible show Ev (tUn _ _) _ _ _); exact ev_un (by walk_at "ev") ru_neg)
  | ((with_reducible show Ev (tFld _ _ _) _ _ _); exact ev_fldK (by walk_at "ev") (by assumption))
  | ((with_reducible show Ev (tOp (rI0 _) _ _) _ _ _); exact ev_op (by walk_at "ev") (by walk_at "ev") rv_I0)
  | ((with_reducible show Ev (tOp rEq _ _) _ _ _); exact ev_op (by walk_at "ev") (by walk_at "ev") (rv_eq rfl))
  | ((with_reducible show Ev (tOp rNe _ _) _ _ _); exact ev_op (by walk_at "ev") (by walk_at "ev") (rv_ne rfl)))

/-! ### the law's own rules and days -/
section
variable {K : PySem.W.Frag} {Z : Ad} {σ : L2.St} {H H' : Hp} {ta tb tc te tx ty tw tr : TE} {S R p : Addr} {ad : List Addr} {f g : Nat → Int} {x y z c life a0 : Int} {xs : List V} {D : Ends} {tz : TS} {m n : Nat} {v u : V} {E : XK} {rk : RK}
theorem q_sold (ha : Ev ta σ H (.ref S)) (hb : Ev tb σ H (.int c)) (hS : Sh H S ad g f) (hn : ad.length ≤ 1000) (c0 : 0 ≤ c) (f0 : ∀ i, 0 ≤ f i) (k : ∀ H', Ex (wn H fun b => b ∈ ad) H' → Sh H' S ad g (cutF f c) → tz D (σ.set m (some (.int (c - max 0 (c - psum f ad.length))))) H') :
    tSeq (tAsg (tCall sp_sold [] E (tCons ta (tCons tb tNil))) (gName m)) tz D σ H := ha H (Ex.refl _) _ fun H1 e1 => hb H1 e1 _ fun H2 e2 =>
  ⟨S, ad, g, f, c, rfl, hS.mono (e1.trans e2), hn, c0, f0, fun H' e3 h3 => k H' ((wn_mono (e1.trans e2)).trans e3) h3⟩
/-- what one may change and what is new -/
theorem ex_pre {Hp0 G : Hp} {N : Addr → Prop} (e : Ex Hp0 G) (n : ∀ b, N b → Hp0 b = none) (e2 : Ex (wn G N) H') : Ex Hp0 H' := fun b o q => e2 b o (by
  rw [wn_ni fun z => by rw [n b z] at q; cases q]
  exact e b o q)
/-- a row more -/
theorem Sh.add {a n : Int} (hS : Sh H S ad g f) (hp : H p = some (.lst [.int a, .int n])) (ne : p ≠ S) (ni : p ∉ ad) :
    Sh (L2.upd H S (.lst (ad.map V.ref ++ [.ref p]))) S (ad ++ [p]) (fun i => if i < ad.length then g i else a) (fun i => if i < ad.length then f i else n) := by
  refine ⟨by rw [upd_same, List.map_append]; rfl, fun i q hq => ?_, ?_, ?_⟩
  · by_cases z : i < ad.length
    · rw [List.getElem?_append_left z] at hq
      rw [upd_ne (fun w => hS.out (by rw [← w]; exact List.mem_of_getElem? hq)), if_pos z, if_pos z]
      exact hS.row i q hq
    · rw [List.getElem?_append_right (by omega)] at hq
      have e : q = p := by
        have := List.mem_of_getElem? hq
        exact List.mem_singleton.mp this
      rw [e, upd_ne ne, if_neg z, if_neg z]
      exact hp
  · exact List.nodup_append.mpr ⟨hS.nd, by simp, fun x hx y hy => by rw [List.mem_singleton.mp hy]; exact fun w => ni (by rw [← w]; exact hx)⟩
  · intro w
    rcases List.mem_append.mp w with w | w
    · exact hS.out w
    · exact ne (List.mem_singleton.mp w).symm
/-- rows.append((x, y, z, _law_closed(shelf, life))) -/
theorem s_appClosed (hr : Ev tr σ H (.ref R)) (hR : H R = some (.lst xs)) (hz : xs.length < 100000) (hx : Ev tx σ H (.int x)) (hy : Ev ty σ H (.int y)) (hw : Ev tw σ H (.int z)) (ha : Ev ta σ H (.ref S)) (hb : Ev tb σ H (.int life)) (hS : Sh H S ad (fun i => a0 - (i : Int)) f) (hn : ad.length ≤ 1000) (nS : R ≠ S) (nR : R ∉ ad)
    (k : ∀ (k : Nat) H' p, k ≤ ad.length → (∀ i, i < k → life ≤ a0 + 1 - (i : Int) ∨ f i = 0) → (k < ad.length → ¬ life ≤ a0 + 1 - (k : Int)) → Ex (wn H fun b => b = S ∨ b ∈ ad) H' → Sh H' S (ad.drop k) (fun i => a0 + 1 - (k : Int) - (i : Int)) (fun i => f (k + i)) → H' p = none → H' R = some (.lst xs) →
      D.nx σ (L2.upd (L2.upd H' p (.tup [.int x, .int y, .int z, .int (psum f k)])) R (.lst (xs ++ [.ref p])))) :
    tDrop (tBM K "list" rAppend tr (tCons (tTup (tCons tx (tCons ty (tCons tw (tCons (tCall sp_closed [] E (tCons ta (tCons tb tNil))) tNil))))) tNil)) D σ H :=
  hr H (Ex.refl _) _ fun H1 e1 => ⟨Or.inl ⟨rfl, xs, sq_of (e1 _ _ hR)⟩, hx H1 e1 _ fun H2 e2 => hy H2 (e1.trans e2) _ fun H3 e3 => hw H3 ((e1.trans e2).trans e3) _ fun H4 e4 => ha H4 (((e1.trans e2).trans e3).trans e4) _ fun H5 e5 => hb H5 ((((e1.trans e2).trans e3).trans e4).trans e5) _ fun H6 e6 => by
    have e16 := ((((e1.trans e2).trans e3).trans e4).trans e5).trans e6
    refine ⟨S, ad, a0, f, life, rfl, hS.mono e16, hn, fun kk H' h1 h2 h3 h4 h5 => ?_⟩
    have hR' : H' R = some (.lst xs) := h4 _ _ ((wn_ni (fun z => z.elim nS nR)).trans (e16 _ _ hR))
    refine ⟨by show 4 ≤ sizeLine; decide, fun p np => ?_⟩
    have npR : R ≠ p := fun z => by rw [← z, hR'] at np; cases np
    exact ⟨R, xs, .ref p, rfl, rfl, (upd_ne npR).trans hR', sz_lt hz, k kk H' p h1 h2 h3 ((wn_mono e16).trans h4) h5 np hR'⟩⟩
/-- two ifs, what they give together -/
theorem q_two {t1 t2 : TT} {u1 u2 : TS} {σ3 : L2.St} (h : (∀ H3, Ex H H3 → tz D σ3 H3) → tSeq (tIfS t1 u1 tNext) (tSeq (tIfS t2 u2 tNext) tz) D σ H) (k : ∀ H3, Ex H H3 → tz D σ3 H3) : tSeq (tIfS t1 u1 tNext) (tSeq (tIfS t2 u2 tNext) tz) D σ H := h k
theorem q_parV (ha : Ev ta σ H v) (hb : Ev tb σ H u) (k : ∀ H2, Ex H H2 → tz D ((σ.set m (some v)).set n (some u)) H2) : tSeq (tPar m n (tCons ta (tCons tb tNil))) tz D σ H :=
  ha H (Ex.refl _) _ fun H1 e1 => hb H1 e1 _ fun H2 e2 => ⟨v, u, rfl, k H2 (e1.trans e2)⟩
theorem q_parLLV {o : Nat} {ys : List V} (ha : EvL ta σ H xs) (hb : EvL tb σ H ys) (hc : ∀ G, Ev tc σ G v) (k : ∀ p q H2, Ex H H2 → H p = none → H q = none → p ≠ q → H2 p = some (.lst xs) → H2 q = some (.lst ys) → tz D (((σ.set m (some (.ref p))).set n (some (.ref q))).set o (some v)) H2) : tSeq (tPar3 m n o (tCons ta (tCons tb (tCons tc tNil)))) tz D σ H :=
  ha H (Ex.refl _) _ fun p H1 np e1 hp => hb H1 e1 _ fun q H2 nq e2 hq => hc H2 H2 (Ex.refl _) _ fun H3 e3 => ⟨_, _, _, rfl, k p q H3 ((e1.trans e2).trans e3) np (fresh_back e1 nq) (fun z => by rw [← z, hp] at nq; cases nq) ((e2.trans e3) _ _ hp) (e3 _ _ hq)⟩
theorem s_retR (h : EvRu Z te σ H rk) (k : ∀ r dx H1, H r = none → Ex H H1 → RuleR Z H1 r dx rk → D.rt (.ref r) H1) : tRet te D σ H := h H (Ex.refl _) _ fun r dx H1 n e hR => k r dx H1 n e hR
theorem ev_notNo (h : Ev ta σ H v) : Ev (tNotN ta) σ H (.bl (!decide (v = .non))) := fun H1 e1 Q q => h H1 e1 _ fun H2 e2 => q H2 e2
end
theorem str_no {s t : Str} (h : s ≠ t) : (V.bl (decide (V.str s = V.str t))) = .bl false := congrArg V.bl (decide_eq_false fun z => h (by injection z))
theorem str_yes {s : Str} : (V.bl (decide (V.str s = V.str s))) = .bl true := congrArg V.bl (decide_eq_true rfl)
theorem range_sum (f : Nat → Int) : ∀ n : Nat, ((List.range n).map f).sum = psum f n
  | 0 => rfl
  | n + 1 => by
    rw [List.range_succ, List.map_append, List.sum_append, range_sum f n]
    show psum f n + (f n + 0) = psum f n + f n
    omega
/-- the words of rules -/
def wordR : RK → Str
  | .fix _ => "fixed"
  | .ref _ => "refill"
  | .sol _ _ => "sold"
def amR : RK → Int
  | .fix a => a
  | .ref g => g
  | .sol a _ => a
theorem w_fr : (Str.ofString "fixed") ≠ Str.ofString "refill" := by decide +kernel
theorem w_fs : (Str.ofString "fixed") ≠ Str.ofString "sold" := by decide +kernel
theorem w_rf : (Str.ofString "refill") ≠ Str.ofString "fixed" := by decide +kernel
theorem w_rs : (Str.ofString "refill") ≠ Str.ofString "sold" := by decide +kernel
theorem w_sf : (Str.ofString "sold") ≠ Str.ofString "fixed" := by decide +kernel
theorem w_sr : (Str.ofString "sold") ≠ Str.ofString "refill" := by decide +kernel
variable {P : Program} {w : World} {K : PySem.W.Frag} {mg : Str → Option Value} {base : Heap} {Z : Ad}
def sp_lawrule (Z : Ad) : Sp := fun vs H Q _ => ∃ (rk : RK) (plus : Int), vs = [.str (wordR rk), .int (amR rk), .int plus] ∧ (∀ a m, rk = .sol a m → plus = m) ∧ rk.ok ∧ ∀ r dx H', H r = none → Ex H H' → RuleR Z H' r dx rk → Q (.ref r) H'
theorem ok__law_rule (T : Txt K mg Z) (hP : P = Z.P) : FnOk P w K mg base CX0 7 Z.f__law_rule Z.d__law_rule p__law_rule (sp_lawrule Z) := by
  refine T.F__law_rule.ok sc__law_rule (fun vs H Q E h => ?_) (fun cdv Ar outer s H vs Q E hr h => ?_)
  · obtain ⟨rk, plus, rfl, _⟩ := h
    rfl
  · obtain ⟨rk, plus, rfl, hp, ok, k⟩ := h
    refine ⟨_, (pss_cons (ps_if (pt_cmpR op_eq (pv 0) pe_str (nomark _)) (pss_one (ps_ret (pe_make T.mk_Rule (ok_Rule___init__ T) (hr.mono (by decide)) (by rfl) T.g_Rule T.b_Rule___init__ .nil pass0 (pa_cons (pv 1) pa_nil)))) pss_nil)
      (pss_cons (ps_if (pt_cmpR op_eq (pv 0) pe_str (nomark _)) (pss_one (ps_ret (pe_make T.mk_RefillRule (ok_RefillRule___init__ T) (hr.mono (by decide)) (by rfl) T.g_RefillRule T.b_RefillRule___init__ .nil pass0 (pa_cons (pv 1) pa_nil)))) pss_nil)
      (pss_one (ps_ret (pe_makeK T.mk_SoldRule (ok_SoldRule___init__ T hP) (hr.mono (by decide)) (by rfl) T.g_SoldRule T.b_SoldRule___init__ pass0 (pa_cons (pv 1) pa_nil) (pk_cons (pv 2) pk_nil)))))), ?_⟩
    rcases rk with a | g | ⟨a, m⟩
    · refine q_when (b := true) (et_test (ev_is (ev_op (ev_var rfl) ev_c (rv_eq rfl)) str_yes)) (fun _ H1 e1 => ?_) fun hb => nomatch hb
      exact s_retR (er_fix (ea_cons (ev_var rfl) ea_nil) ok.1 ok.2) fun r dx H2 n e hR => k r dx H2 (fresh_back e1 n) (e1.trans e) hR
    · refine q_when (b := false) (et_test (ev_is (ev_op (ev_var rfl) ev_c (rv_eq rfl)) (str_no w_rf))) (fun hb => nomatch hb) fun _ H1 e1 => ?_
      refine q_when (b := true) (et_test (ev_is (ev_op (ev_var rfl) ev_c (rv_eq rfl)) str_yes)) (fun _ H2 e2 => ?_) fun hb => nomatch hb
      exact s_retR (er_ref (ea_cons (ev_var rfl) ea_nil) ok.1 ok.2) fun r dx H3 n e hR => k r dx H3 (fresh_back (e1.trans e2) n) ((e1.trans e2).trans e) hR
    · have hpm := hp a m rfl
      subst hpm
      refine q_when (b := false) (et_test (ev_is (ev_op (ev_var rfl) ev_c (rv_eq rfl)) (str_no w_sf))) (fun hb => nomatch hb) fun _ H1 e1 => ?_
      refine q_when (b := false) (et_test (ev_is (ev_op (ev_var rfl) ev_c (rv_eq rfl)) (str_no w_sr))) (fun hb => nomatch hb) fun _ H2 e2 => ?_
      exact s_retR (er_sol (ea_cons (ev_var rfl) ea_nil) (ea_cons (ev_var rfl) ea_nil) ok.1 ok.2.1 ok.2.2.1 ok.2.2.2) fun r dx H3 n e hR => k r dx H3 (fresh_back (e1.trans e2) n) ((e1.trans e2).trans e) hR
end Sw
namespace Sw
open PySem PySem.Spec PyProof.Rows L2 Evl GnX
local macro_rules | `(tactic| walk_at "ev") => `(tactic| first
  | exact ev_c
  | exact ev_var rfl
  | ((with_reducible show Ev (tCB rMax2 _) _ _ _); exact ev_maxi (by walk_at "ev") (by walk_at "ev"))
  | ((with_reducible show Ev (tCB rMn _) _ _ _); exact ev_min2 (by walk_at "ev") (by walk_at "ev"))
  | ((with_reducible show Ev (tUn _ _) _ _ _); exact ev_un (by walk_at "ev") ru_neg)
  | ((with_reducible show Ev (tFld _ _ _) _ _ _); exact ev_fldK (by walk_at "ev") (by assumption))
  | ((with_reducible show Ev (tOp (rI0 _) _ _) _ _ _); exact ev_op (by walk_at "ev") (by walk_at "ev") rv_I0)
  | ((with_reducible show Ev (tOp rEq _ _) _ _ _); exact ev_op (by walk_at "ev") (by walk_at "ev") (rv_eq rfl))
  | ((with_reducible show Ev (tOp rNe _ _) _ _ _); exact ev_op (by walk_at "ev") (by walk_at "ev") (rv_ne rfl)))

/-! ### the law's own course of days -/
/-- rows told by their places -/
structure RowsAt (H : Hp) (R : Addr) (rs : List Addr) (rk : RK) (ds : List Int) (L t : Nat) : Prop where
  hs : H R = some (.lst (rs.map V.ref))
  len : rs.length = t
  row : ∀ (i : Nat) p, rs[i]? = some p → H p = some (.tup ((rrow rk ds L i).map V.int))
theorem RowsAt.mono {H H' : Hp} {R : Addr} {rs : List Addr} {rk : RK} {ds : List Int} {L t : Nat} (e : Ex H H') (h : RowsAt H R rs rk ds L t) : RowsAt H' R rs rk ds L t := ⟨e _ _ h.hs, h.len, fun i p q => e _ _ (h.row i p q)⟩
/-- what changes is none of the rows -/
theorem RowsAt.keep {H H' : Hp} {R : Addr} {rs : List Addr} {rk : RK} {ds : List Int} {L t : Nat} {N : Addr → Prop} (h : RowsAt H R rs rk ds L t) (nR : ¬ N R) (nN : ∀ b, N b → ∀ xs, H b ≠ some (.tup xs)) (e : Ex (wn H N) H') : RowsAt H' R rs rk ds L t :=
  ⟨e _ _ ((wn_ni nR).trans h.hs), h.len, fun i p q => e _ _ ((wn_ni fun z => nN p z _ (h.row i p q)).trans (h.row i p q))⟩
theorem Sh.noTup {H : Hp} {S : Addr} {ad : List Addr} {g f : Nat → Int} (h : Sh H S ad g f) : ∀ b, (b = S ∨ b ∈ ad) → ∀ xs, H b ≠ some (.tup xs) := fun b z xs q => by
  rcases z with rfl | z
  · rw [h.hs] at q; cases q
  · obtain ⟨i, hi⟩ := List.getElem?_of_mem z
    rw [h.row i b hi] at q; cases q
def saleV (rk : RK) (ds : List Int) (L : Nat) : Nat → V
  | 0 => .non
  | t + 1 => .int (min (stR rk ds L t + bakR rk ds L t) (dem ds t))
variable {P : Program} {w : World} {K : PySem.W.Frag} {mg : Str → Option Value} {base : Heap} {Z : Ad}
def sp_lawdays (Z : Ad) : Sp := fun vs H Q _ => ∃ (rk : RK) (plus : Int) (td : Addr) (ds : List Int) (L n : Nat), vs = [.str (wordR rk), .int (amR rk), .int plus, .ref td, .int (L : Int), .int (n : Int)] ∧ (∀ a m, rk = .sol a m → plus = m) ∧ rk.ok ∧ DemOk H td ds L n ∧ n ≤ 900 ∧
  ∀ R rs H', H R = none → Ex H H' → RowsAt H' R rs rk ds L n → Q (.ref R) H'
set_option maxHeartbeats 8000000 in
theorem ok__law_days (T : Txt K mg Z) : FnOk P w K mg base CX0 2 Z.f__law_days Z.d__law_days p__law_days (sp_lawdays Z) := by
  refine T.F__law_days.ok sc__law_days (fun vs H Q E h => ?_) (fun cdv Ar outer s H vs Q E hr h => ?_)
  · obtain ⟨rk, plus, td, ds, L, n, rfl, _⟩ := h
    rfl
  · obtain ⟨rk, plus, td, ds, L, n, rfl, hp, ok, hD, hn, k⟩ := h
    have p9 : (10 : Int) ^ (9 : Int).toNat = 1000000000 := by decide
    have sh := rule_sh (L := L) ok hD.l0 hD.d0
    have hlen : (((ds.map V.int).length : Nat) : Int) = (ds.length : Int) := by rw [List.length_map]
    have n0 := hD.n0
    refine ⟨_, (pss_cons (ps_par3 (i := 6) (j := 7) (l := 8) rfl sc__law_days.nd rfl rfl rfl (by decide) (by decide) (by decide) rfl rfl rfl (pa_cons (pe_lst pa_nil) (pa_cons (pe_lst pa_nil) (pa_cons pe_non pa_nil))) (by rfl))
      (pss_cons (ps_for PassesOwn.never rfl (pi_range1 (by rfl) T.b_range (pa_cons (pv 5) pa_nil)) (pg_name (i := 9) sc__law_days.nd rfl (Or.inl rfl)) (pss_cons (ps_par (i := 10) (j := 11) rfl sc__law_days.nd rfl rfl (by decide) rfl rfl (pa_cons (pv 1) (pa_cons (pe_ix (r := rIxT K) ix_tup (pv 3) (pe_op op_mod (pv 9) (pe_callB (r := rLenS K) (call_len_seq) (by rfl) T.b_len boot_len (pa_cons (pv 3) pa_nil))) (fun _ _ => rfl)) pa_nil)) (by rfl))
      (pss_cons (ps_if (pt_cmpR op_eq (pv 0) pe_str (nomark _)) (pss_one (ps_set (i := 10) sc__law_days.nd rfl (Or.inl rfl) (pe_callB (r := rMax2) (call_max2 rfl) (by rfl) T.b_max boot_max (pa_cons pe_int (pa_cons (pe_op op_sub (pv 1) (pe_callB (r := rSum K) (cr_sum rfl) (by rfl) T.b_sum boot_sum (pa_cons (pe_lc (own := [("_law_row", 12)]) rfl sc__law_days.nd (pi_listK K rfl (pv 6)) (blkOk_by (own := [("_law_row", 12)]) (N := n__law_days) (sc := defScope s__law_days) (scope := { kind := PySem.ScopeKind.function, names := [(PySem.Str.ofString ".0", PySem.NameKind.local), (PySem.Str.ofString "_law_row", PySem.NameKind.local)], isGenerator := false, isCoroutine := false, more := [] : PySem.Scope }) (by decide +kernel)) (fun _ _ _ _ _ => (pg_name (i := 12) sc__law_days.nd rfl (Or.inl rfl))) (fun _ _ _ _ _ => pts_nil) (fun _ _ _ _ _ => (pe_ix (r := rIxL K) ix_list (pv 12) pe_int (fun _ _ => rfl)))) pa_nil))) pa_nil))))) pss_nil)
      (pss_cons (ps_if (PW.pt (pw_and (pt_cmpR op_eq (pv 0) pe_str (nomark _)) (pw_and1 (pt_cmp (pc_notN (pv 8)))))) (pss_one (ps_set (i := 10) sc__law_days.nd rfl (Or.inl rfl) (pe_callB (r := rMn) (call_min2 rfl) (by rfl) T.b_min boot_min (pa_cons (pe_callB (r := rMax2) (call_max2 rfl) (by rfl) T.b_max boot_max (pa_cons pe_int (pa_cons (pe_op op_add (pv 8) (pv 2)) pa_nil))) (pa_cons (pe_op op_pow pe_int pe_int) pa_nil))))) pss_nil)
      (pss_cons (ps_expr (pe_bm PySem.F.plainAttrs_list PySem.F.slot_list_append PySem.F.type_list_append mt_append (pv 6) (pa_cons (pe_lst (pa_cons pe_int (pa_cons (pv 10) pa_nil))) pa_nil)))
      (pss_cons (ps_set (i := 8) sc__law_days.nd rfl (Or.inl rfl) (pe_call (ok__law_sold T) (hr.mono (by decide)) (by rfl) T.g__law_sold T.F__law_sold.kp T.b__law_sold .nil pass0 (pa_cons (pv 6) (pa_cons (pv 11) pa_nil))))
      (pss_one (ps_expr (pe_bm PySem.F.plainAttrs_list PySem.F.slot_list_append PySem.F.type_list_append mt_append (pv 7) (pa_cons (pe_tup (pa_cons (pv 10) (pa_cons (pv 8) (pa_cons (pe_op op_sub (pv 11) (pv 8)) (pa_cons (pe_call (ok__law_closed T) (hr.mono (by decide)) (by rfl) T.g__law_closed T.F__law_closed.kp T.b__law_closed .nil pass0 (pa_cons (pv 6) (pa_cons (pv 4) pa_nil))) pa_nil))))) pa_nil))))))))))
      (pss_one (ps_ret (pv 7))))), ?_⟩
    refine q_parLLV (el_lst ea_nil (by show 0 ≤ 100000; decide)) (el_lst ea_nil (by show 0 ≤ 100000; decide)) (fun G => ev_c) fun S R H1 e1 nS nR neq hS1 hR1 => ?_
    refine q_forR1 (n := (n : Int)) (ea_cons (ev_var rfl) ea_nil) ⟨by omega, by omega⟩ (fun t σ' H' => ∃ (e : Nat) (ad rs : List Addr) (x9 x10 x11 x12 : Option V), σ' = [some (.str (wordR rk)), some (.int (amR rk)), some (.int plus), some (.ref td), some (.int (L : Int)), some (.int (n : Int)), some (.ref S), some (.ref R), some (saleV rk ds L t), x9, x10, x11, x12] ∧
        e ≤ t ∧ stR rk ds L t ≤ psum (bakR rk ds L) t - psum (bakR rk ds L) e ∧ ad.length = t - e ∧ Sh H' S ad (fun i => ((t - e : Nat) : Int) - (i : Int)) (fun i => rowLM (bakR rk ds L) (stR rk ds L) t (e + i)) ∧ (∀ a ∈ ad, H a = none) ∧ R ∉ ad ∧ RowsAt H' R rs rk ds L t ∧ Ex H H')
      (fun H2 e2 => ⟨0, [], [], _, _, _, _, rfl, Nat.le_refl _, by show (0 : Int) ≤ _; simp, rfl, ⟨e2 _ _ hS1, fun i p hp => (by simp at hp), List.nodup_nil, by simp⟩, by simp, by simp, ⟨e2 _ _ hR1, rfl, fun i p q => (by simp at q)⟩, e1.trans e2⟩) ?_ ?_
    · rintro t σ' H' ht ⟨e, ad, rs, x9, x10, x11, x12, rfl, he, hsd, hla, hSh, hnew, hRa, hRs, eP⟩
      have hDt := (hD.mono eP).td
      have hm := mod_nat t n0
      refine q_parV (v := .int (amR rk)) (u := .int (dem ds t)) (ev_var rfl) (ev_ixT (ev_var rfl) (st_of hDt) (ev_op (ev_var rfl) (Ev.int_eq (ev_lenT (ev_var rfl) (st_of hDt)) hlen) (rv_I (by show (0 : Int) < _; omega))) (by rw [atI_mapI hm.1 hm.2.1, hm.2.2]; rfl)) fun H2 e2 => ?_
      have hSh2 := hSh.mono e2
      refine q_two (σ3 := [some (.str (wordR rk)), some (.int (amR rk)), some (.int plus), some (.ref td), some (.int (L : Int)), some (.int (n : Int)), some (.ref S), some (.ref R), some (saleV rk ds L t), some (.int (t : Int)), some (.int (bakR rk ds L t)), some (.int (dem ds t)), x12]) (fun kk => ?_) fun H3 e3 => ?_
      · rcases rk with a | g | ⟨a, m⟩
        · refine q_when (b := false) (et_test (ev_is (ev_op (ev_var rfl) ev_c (rv_eq rfl)) (str_no w_fr))) (fun hb => nomatch hb) fun _ H3 e3 => ?_
          exact q_when (b := false) (et_is (et_and (b := false) (et_test (ev_is (ev_op (ev_var rfl) ev_c (rv_eq rfl)) (str_no w_fs))) fun hb => nomatch hb) rfl) (fun hb => nomatch hb) fun _ H4 e4 => kk H4 (e3.trans e4)
        · refine q_when (b := true) (et_test (ev_is (ev_op (ev_var rfl) ev_c (rv_eq rfl)) str_yes)) (fun _ H3 e3 => ?_) fun hb => nomatch hb
          have hSh3 := hSh2.mono e3
          have es : ((List.range ad.length).map fun i => rowLM (bakR (.ref g) ds L) (stR (.ref g) ds L) t (e + i)).sum = stR (.ref g) ds L t := by
            rw [range_sum, hla, rowLM_sum sh he hsd (t - e) (by omega), show e + (t - e) = t by omega]
            have := sh.s0 t
            omega
          refine s_asg (v := .int (bakR (.ref g) ds L t)) (Ev.int_eq (ev_maxi ev_c (ev_op (ev_var rfl) (ev_sumN (ns := (List.range ad.length).map fun i => rowLM (bakR (.ref g) ds L) (stR (.ref g) ds L) t (e + i)) (el_isV (el_lcL (K := K) (fun _ => true) (fun i => .int (rowLM (bakR (.ref g) ds L) (stR (.ref g) ds L) t (e + i))) (ev_var rfl) (sq_of hSh3.hs) (by rw [List.length_map, hla]; omega) (fun _ => rfl) (fun _ _ _ _ _ => et_yes) (fun i x G eG hx _ => ?_)) ?_)) rv_I0)) ?_) fun H4 e4 => ?_
          · rw [List.getElem?_map] at hx
            obtain ⟨p, hp, rfl⟩ := Option.map_eq_some_iff.mp hx
            exact ev_ixL (ev_var rfl) (sq_of (eG _ _ (hSh3.row i p hp))) ev_c rfl
          · rw [List.length_map, given_all, List.map_map]; rfl
          · rw [es]; rfl
          · exact q_when (b := false) (et_is (et_and (b := false) (et_test (ev_is (ev_op (ev_var rfl) ev_c (rv_eq rfl)) (str_no w_rs))) fun hb => nomatch hb) rfl) (fun hb => nomatch hb) fun _ H5 e5 => kk H5 ((e3.trans e4).trans e5)
        · have hpm := hp a m rfl
          subst hpm
          refine q_when (b := false) (et_test (ev_is (ev_op (ev_var rfl) ev_c (rv_eq rfl)) (str_no w_sr))) (fun hb => nomatch hb) fun _ H3 e3 => ?_
          cases t with
          | zero =>
            exact q_when (b := false) (et_is (et_and (b := false) (et_test (ev_is (ev_op (ev_var rfl) ev_c (rv_eq rfl)) str_yes)) fun _ => et_is (et_B (ev_notNo (v := .non) (ev_var rfl))) (by simp)) rfl) (fun hb => nomatch hb) fun _ H4 e4 => kk H4 (e3.trans e4)
          | succ t =>
            refine q_when (b := true) (et_is (et_and (b := true) (et_test (ev_is (ev_op (ev_var rfl) ev_c (rv_eq rfl)) str_yes)) fun _ => et_is (et_B (ev_notNo (v := saleV (.sol a plus) ds L (t + 1)) (ev_var rfl))) (by simp [saleV])) rfl) (fun _ H4 e4 => ?_) fun hb => nomatch hb
            refine s_asg (v := .int (bakR (.sol a plus) ds L (t + 1))) (Ev.int_eq (ev_min2 (ev_maxi ev_c (ev_op (ev_var (v := .int (min (stR (.sol a plus) ds L t + bakR (.sol a plus) ds L t) (dem ds t))) rfl) (ev_var rfl) rv_I0)) (Ev.int_eq (ev_op ev_c ev_c (rv_I ⟨by decide, by decide, by decide⟩)) p9)) (bak_solS t).symm) fun H5 e5 => kk H5 ((e3.trans e4).trans e5)
      have e23 := e2.trans e3
      have hSh3 := hSh.mono e23
      have hRs3 := hRs.mono e23
      have eP3 := eP.trans e23
      refine q_appL hSh3.hs (ev_var rfl) (el_lst (ea_cons ev_c (ea_cons (ev_var rfl) ea_nil)) (by show 2 ≤ 100000; decide)) (by rw [List.length_map]; omega) fun r H9 nr e9 hr => ?_
      have nrS : r ≠ S := fun z => by rw [z, hSh3.hs] at nr; cases nr
      have nra : r ∉ ad := fun z => by
        obtain ⟨i, hi⟩ := List.getElem?_of_mem z
        rw [hSh3.row i r hi] at nr; cases nr
      have nrR : R ≠ r := fun z => by rw [← z, hRs3.hs] at nr; cases nr
      have hSh10 := (hSh3.mono e9).add hr nrS nra
      have hRs9 := hRs3.mono e9
      have eU : Ex (wn H9 fun b => b = S) (L2.upd H9 S (.lst (ad.map V.ref ++ [.ref r]))) := ex_updN wn_ex rfl
      have hRs10 : RowsAt (L2.upd H9 S (.lst (ad.map V.ref ++ [.ref r]))) R rs rk ds L t := hRs9.keep (fun z => neq z.symm) (fun b z => (hSh3.mono e9).noTup b (.inl z)) eU
      have eP10 : Ex H (L2.upd H9 S (.lst (ad.map V.ref ++ [.ref r]))) := ex_pre (N := fun b => b = S) (eP3.trans e9) (fun b z => by rw [z]; exact nS) eU
      generalize L2.upd H9 S (.lst (ad.map V.ref ++ [.ref r])) = H10 at hSh10 eP10 hRs10 ⊢
      have hlr : (ad ++ [r]).length = t + 1 - e := by rw [List.length_append, hla, List.length_singleton]; omega
      have hSh10 : Sh H10 S (ad ++ [r]) (fun i => ((t - e : Nat) : Int) - (i : Int)) (rowBM (bakR rk ds L) (stR rk ds L) t e) := hSh10.congr (fun i hi => by
        by_cases z : i < ad.length
        · rw [if_pos z]
        · rw [if_neg z]; omega) fun i hi => by
        unfold rowBM
        by_cases z : i < ad.length
        · rw [if_pos z, if_pos (by omega)]
        · rw [if_neg z, if_neg (by omega)]
      have hnr : ∀ a ∈ ad ++ [r], H a = none := fun a ha => by
        rcases List.mem_append.mp ha with z | z
        · exact hnew a z
        · rw [List.mem_singleton.mp z]; exact fresh_back eP3 nr
      have hRr : R ∉ ad ++ [r] := fun z => by
        rcases List.mem_append.mp z with z | z
        · exact hRa z
        · exact nrR (List.mem_singleton.mp z)
      refine q_sold (c := dem ds t) (ev_var rfl) (ev_var rfl) hSh10 (by omega) (sh.c0 t) (fun i => rowBM_nn sh t e i) fun H11 e11 hSh11 => ?_
      rw [hlr, dayM_sold sh he hsd]
      have eP11 := ex_pre eP10 hnr e11
      have hRs11 := hRs10.keep hRr (fun b z => hSh10.noTup b (.inr z)) e11
      have hSh11 : Sh H11 S (ad ++ [r]) (fun i => ((t - e : Nat) : Int) - (i : Int)) (rowSM (bakR rk ds L) (dem ds) (stR rk ds L) t e) := hSh11
      refine s_appClosed (x := bakR rk ds L t) (y := min (stR rk ds L t + bakR rk ds L t) (dem ds t)) (z := dem ds t - min (stR rk ds L t + bakR rk ds L t) (dem ds t)) (life := (L : Int)) (a0 := ((t - e : Nat) : Int)) (ev_var rfl) hRs11.hs (by rw [List.length_map, hRs11.len]; omega) (ev_var rfl) (ev_var rfl) (ev_op (ev_var rfl) (ev_var rfl) rv_I0) (ev_var rfl) (ev_var rfl) hSh11 (by omega) (fun z => neq z.symm) hRr fun kk H13 q hk h1 h2 e13 hSh13 nq hR13 => ?_
      obtain ⟨c1, c2, c3⟩ := dayM_closed sh he hsd (k := kk) (by omega) h1 (fun z => h2 (by omega))
      rw [c1]
      have hnS : ∀ b, (b = S ∨ b ∈ ad ++ [r]) → H b = none := fun b z => by
        rcases z with z | z
        · rw [z]; exact nS
        · exact hnr b z
      have eP13 := ex_pre (N := fun b => b = S ∨ b ∈ ad ++ [r]) eP11 hnS e13
      have hRs13 := hRs11.keep (fun z => z.elim (fun z => neq z.symm) hRr) (fun b z => hSh11.noTup b z) e13
      have nqS : S ≠ q := fun z => by rw [← z, hSh13.hs] at nq; cases nq
      have nqR : R ≠ q := fun z => by rw [← z, hRs13.hs] at nq; cases nq
      have en := Ex.new (o := .tup [.int (bakR rk ds L t), .int (min (stR rk ds L t + bakR rk ds L t) (dem ds t)), .int (dem ds t - min (stR rk ds L t + bakR rk ds L t) (dem ds t)), .int (stR rk ds L t + bakR rk ds L t - min (stR rk ds L t + bakR rk ds L t) (dem ds t) - stR rk ds L (t + 1))]) nq
      have hq : L2.upd H13 q (.tup [.int (bakR rk ds L t), .int (min (stR rk ds L t + bakR rk ds L t) (dem ds t)), .int (dem ds t - min (stR rk ds L t + bakR rk ds L t) (dem ds t)), .int (stR rk ds L t + bakR rk ds L t - min (stR rk ds L t + bakR rk ds L t) (dem ds t) - stR rk ds L (t + 1))]) q = some (.tup ((rrow rk ds L t).map V.int)) := upd_same
      have hSh14 := hSh13.mono en
      have hRs14 := hRs13.mono en
      have eP14 := eP13.trans en
      generalize L2.upd H13 q (.tup [.int (bakR rk ds L t), .int (min (stR rk ds L t + bakR rk ds L t) (dem ds t)), .int (dem ds t - min (stR rk ds L t + bakR rk ds L t) (dem ds t)), .int (stR rk ds L t + bakR rk ds L t - min (stR rk ds L t + bakR rk ds L t) (dem ds t) - stR rk ds L (t + 1))]) = H14 at hq hSh14 hRs14 eP14 ⊢
      have nSR : S ≠ R := neq
      have tR : ∀ {b : Addr} {xs : List V}, H14 b = some (.tup xs) → b ≠ R := fun {b xs} z y => by rw [y, hRs14.hs] at z; cases z
      refine ⟨e + kk, (ad ++ [r]).drop kk, rs ++ [q], _, _, _, _, rfl, by omega, c2, by rw [List.length_drop]; omega, ?_, fun a ha => hnr a (List.mem_of_mem_drop ha), fun z => hRr (List.mem_of_mem_drop z), ?_, ex_pre (N := fun b => b = R) eP14 (fun b z => by rw [z]; exact nR) (ex_updN wn_ex rfl)⟩
      · have hS15 : Sh (L2.upd H14 R (.lst (rs.map V.ref ++ [.ref q]))) S ((ad ++ [r]).drop kk) (fun i => ((t - e : Nat) : Int) + 1 - (kk : Int) - (i : Int)) (fun i => rowSM (bakR rk ds L) (dem ds) (stR rk ds L) t e (kk + i)) :=
          ⟨(upd_ne nSR).trans hSh14.hs, fun i a ha => (upd_ne (fun z => hRr (by rw [← z]; exact List.mem_of_mem_drop (List.mem_of_getElem? ha)))).trans (hSh14.row i a ha), hSh14.nd, hSh14.out⟩
        refine hS15.congr (fun i hi => by omega) fun i hi => ?_
        rw [List.length_drop] at hi
        exact (c3 i (by omega)).symm
      · refine ⟨by rw [upd_same, List.map_append]; rfl, by rw [List.length_append, hRs14.len]; rfl, fun i p hp => ?_⟩
        by_cases z : i < rs.length
        · rw [List.getElem?_append_left z] at hp
          have y := hRs14.row i p hp
          rw [upd_ne (tR y)]; exact y
        · have hi : i = rs.length := by
            have := (List.getElem?_eq_some_iff.mp hp).1
            rw [List.length_append] at this
            simp at this
            omega
          rw [hi, List.getElem?_append_right (Nat.le_refl _), Nat.sub_self] at hp
          have ep : q = p := by simpa using hp
          subst ep
          rw [upd_ne (tR hq), hi, hRs14.len]; exact hq
    · rintro σ' H' ⟨e, ad, rs, x9, x10, x11, x12, rfl, _, _, _, _, _, _, hRs, eP⟩
      rw [Int.toNat_natCast] at hRs
      exact s_ret (ev_var rfl) fun H2 e2 => k R rs H2 nR (eP.trans e2) (hRs.mono e2)
end Sw
namespace Sw
open PySem PySem.Spec PyProof.Rows L2 Evl GnX LamX NdefX
local macro_rules | `(tactic| walk_at "ev") => `(tactic| first
  | exact ev_c
  | exact ev_var rfl
  | ((with_reducible show Ev (tCB rMax2 _) _ _ _); exact ev_maxi (by walk_at "ev") (by walk_at "ev"))
  | ((with_reducible show Ev (tCB rMn _) _ _ _); exact ev_min2 (by walk_at "ev") (by walk_at "ev"))
  | ((with_reducible show Ev (tUn _ _) _ _ _); exact ev_un (by walk_at "ev") ru_neg)
  | ((with_reducible show Ev (tFld _ _ _) _ _ _); exact ev_fldK (by walk_at "ev") (by assumption))
  | ((with_reducible show Ev (tOp (rI0 _) _ _) _ _ _); exact ev_op (by walk_at "ev") (by walk_at "ev") rv_I0)
  | ((with_reducible show Ev (tOp rEq _ _) _ _ _); exact ev_op (by walk_at "ev") (by walk_at "ev") (rv_eq rfl))
  | ((with_reducible show Ev (tOp rNe _ _) _ _ _); exact ev_op (by walk_at "ev") (by walk_at "ev") (rv_ne rfl)))

/-! ### refused rules, refused numbers -/
section
variable {K : PySem.W.Frag} {Z : Ad} {σ : L2.St} {H H' : Hp} {te ta tb tl tw : TE} {t tk : TA} {m j : Nat} {D : Ends} {tz tu : TS} {a n life : Int} {E : XK} {Q : VK} {p q r : Addr} {xs : List V} {sp : Sp} {T : List NTab} {i : Int}
/-- a lambda that stands -/
def LamS (mk : Addr → LF) (f : Addr) (H : Hp) : Prop := ∃ c, H f = some (LamO f (mk c)) ∧ H c = some (CodeO c (mk c).qual)
def LamT (mk : Addr → Addr → LF) (i : Int) (f : Addr) (H : Hp) : Prop := ∃ c t, H f = some (LamO f (mk c t)) ∧ H c = some (CodeO c (mk c t).qual) ∧ H t = some (.tup [.int i])
theorem codeO_tbl {c : Addr} {q : Str} (ps : Array Value) : CodeO c q ≠ .tbl ps := fun z => by unfold CodeO at z; cases z
theorem LamS.ext {mk : Addr → LF} {f : Addr} {G G' : Hp} (e : ExtN G G') (x : LamS mk f G) : LamS mk f G' := let ⟨c, a, b⟩ := x; ⟨c, e _ _ a lamO_tbl, e _ _ b codeO_tbl⟩
theorem LamT.ext {mk : Addr → Addr → LF} {i : Int} {f : Addr} {G G' : Hp} (e : ExtN G G') (x : LamT mk i f G) : LamT mk i f G' := let ⟨c, t, a, b, d⟩ := x; ⟨c, t, e _ _ a lamO_tbl, e _ _ b codeO_tbl, e _ _ d fun _ z => nomatch z⟩
theorem ExtN.tr {G G' G'' : Hp} (a : ExtN G G') (b : ExtN G' G'') : ExtN G G'' := fun x o e n => b _ _ (a _ _ e n) n
theorem q_works {mk1 : Addr → LF} {mk2 : Addr → Addr → LF} (hT : TabsN T H) (k : ∀ f1 f2 p H', ExtN H H' → TabsN T H' → LamS mk1 f1 H' → LamT mk2 i f2 H' → H' p = some (.lst [.ref f1, .ref f2]) → tz D (σ.set m (some (.ref p))) H') :
    tSeq (tAsg (tLst (tCons (tLamE T mk1) (tCons (tLamD T mk2 i) tNil))) (gName m)) tz D σ H :=
  ⟨hT, fun f1 c1 H1 e1 _ T1 _ a1 b1 => ⟨T1, fun f2 c2 t2 H2 e2 _ T2 _ a2 b2 d2 => ⟨by show 2 ≤ sizeLine; decide, fun p hp => by
    have e3 : Ex H2 (L2.upd H2 p (.lst [.ref f1, .ref f2])) := Ex.new hp
    have e23 := ExtN.tr e2 (extN_of e3)
    exact k f1 f2 p _ (ExtN.tr e1 e23) (T2.ext e3) (LamS.ext e23 ⟨c1, a1, b1⟩) (LamT.ext (extN_of e3) ⟨c2, t2, a2, b2, d2⟩) upd_same⟩⟩⟩
theorem q_works3 {mk1 : Addr → LF} {mk2 mk3 : Addr → Addr → LF} {i' : Int} (hT : TabsN T H) (k : ∀ f1 f2 f3 p H', ExtN H H' → TabsN T H' → LamS mk1 f1 H' → LamT mk2 i f2 H' → LamT mk3 i' f3 H' → H' p = some (.lst [.ref f1, .ref f2, .ref f3]) → tz D (σ.set m (some (.ref p))) H') :
    tSeq (tAsg (tLst (tCons (tLamE T mk1) (tCons (tLamD T mk2 i) (tCons (tLamD T mk3 i') tNil)))) (gName m)) tz D σ H :=
  ⟨hT, fun f1 c1 H1 e1 _ T1 _ a1 b1 => ⟨T1, fun f2 c2 t2 H2 e2 _ T2 _ a2 b2 d2 => ⟨T2, fun f3 c3 t3 H3 e3 _ T3 _ a3 b3 d3 => ⟨by show 3 ≤ sizeLine; decide, fun p hp => by
    have e4 : Ex H3 (L2.upd H3 p (.lst [.ref f1, .ref f2, .ref f3])) := Ex.new hp
    have e34 := ExtN.tr e3 (extN_of e4)
    have e24 := ExtN.tr e2 e34
    exact k f1 f2 f3 p _ (ExtN.tr e1 e24) (T3.ext e4) (LamS.ext e24 ⟨c1, a1, b1⟩) (LamT.ext e34 ⟨c2, t2, a2, b2, d2⟩) (LamT.ext (extN_of e4) ⟨c3, t3, a3, b3, d3⟩) upd_same⟩⟩⟩⟩
/-- two more -/
theorem q_worksC {mk4 mk5 : Addr → Addr → LF} {i' : Int} (hT : TabsN T H) (hw : Ev ta σ H (.ref q)) (hq : H q = some (.lst xs)) (hz : xs.length ≤ 100) (k : ∀ f4 f5 p H', ExtN H H' → TabsN T H' → LamT mk4 i f4 H' → LamT mk5 i' f5 H' → H' p = some (.lst (xs ++ [.ref f4, .ref f5])) → tz D (σ.set m (some (.ref p))) H') :
    tSeq (tAsg (tOp rCat ta (tLst (tCons (tLamD T mk4 i) (tCons (tLamD T mk5 i') tNil)))) (gName m)) tz D σ H := hw H (Ex.refl _) _ fun H0 e0 =>
  ⟨hT.ext e0, fun f4 c4 t4 H2 e2 _ T2 _ a4 b4 d4 => ⟨T2, fun f5 c5 t5 H3 e3 _ T3 _ a5 b5 d5 => ⟨by show 2 ≤ sizeLine; decide, fun p hp => by
    have e4 : Ex H3 (L2.upd H3 p (.lst [.ref f4, .ref f5])) := Ex.new hp
    have hq3 : H3 q = some (.lst xs) := e3 _ _ (e2 _ _ (e0 _ _ hq) fun _ z => nomatch z) fun _ z => nomatch z
    refine ⟨q, p, xs, [.ref f4, .ref f5], rfl, rfl, e4 _ _ hq3, upd_same, by rw [sizeLine_eq]; show xs.length + 2 ≤ _; omega, fun r hr => ?_⟩
    have e5 : Ex (L2.upd H3 p (.lst [.ref f4, .ref f5])) (L2.upd (L2.upd H3 p (.lst [.ref f4, .ref f5])) r (.lst (xs ++ [.ref f4, .ref f5]))) := Ex.new hr
    have e45 := extN_of (e4.trans e5)
    exact k f4 f5 r _ (ExtN.tr (extN_of e0) (ExtN.tr e2 (ExtN.tr e3 e45))) (T3.ext (e4.trans e5)) (LamT.ext (ExtN.tr e3 e45) ⟨c4, t4, a4, b4, d4⟩) (LamT.ext e45 ⟨c5, t5, a5, b5, d5⟩) upd_same⟩⟩⟩
theorem tabs_lst {ys : List V} (t : TabsN T H) (hp : H p = some (.lst xs)) : TabsN T (L2.upd H p (.lst ys)) := fun x hx => by
  obtain ⟨ps, h1, h2, h3⟩ := t x hx
  refine ⟨ps, (upd_ne (fun z => by rw [z, hp] at h1; cases h1)).trans h1, h2, fun pos cv hc => ?_⟩
  obtain ⟨c, e1, e2⟩ := h3 pos cv hc
  exact ⟨c, e1, (upd_ne (fun z => by rw [z, hp] at e2; unfold CodeO at e2; cases e2)).trans e2⟩
/-- works.append(lambda) -/
theorem q_appLamD {mk : Addr → Addr → LF} (hT : TabsN T H) (ha : Ev ta σ H (.ref p)) (hp : H p = some (.lst xs)) (hz : xs.length < 100000) (k : ∀ f H1, ExtN H H1 → TabsN T H1 → LamT mk i f H1 → H1 p = some (.lst xs) → tz D σ (L2.upd H1 p (.lst (xs ++ [.ref f])))) :
    tSeq (tDrop (tBM K "list" rAppend ta (tCons (tLamD T mk i) tNil))) tz D σ H := ha H (Ex.refl _) _ fun H1 e1 =>
  ⟨Or.inl ⟨rfl, xs, sq_of (e1 _ _ hp)⟩, hT.ext e1, fun f c t H2 e2 _ T2 _ a b d =>
    have h2 : H2 p = some (.lst xs) := e2 _ _ (e1 _ _ hp) fun _ z => nomatch z
    ⟨p, xs, .ref f, rfl, rfl, h2, sz_lt hz, k f H2 (ExtN.tr (extN_of e1) e2) T2 ⟨c, t, a, b, d⟩ h2⟩⟩
/-! rules that are refused -/
theorem r_makeR (ht : EvA t σ H [.int a]) (ha : a < 0 ∨ 1000000000 < a) (k : RaiR Z (Str.ofString "amount") H E) : tMake Z.c_Rule (spOr sp (sp_RX Z (Str.ofString "amount"))) [] E t σ H Q := ht H (Ex.refl H) _ fun H1 e1 x dx hx hdx hne => by
  have eN : Ex H1 (L2.upd (L2.upd H1 dx (.own x)) x (.ins Z.c_Rule dx [])) := fun b o hbo => by
    rw [upd_ne (ne_of_none hbo hx), upd_ne (ne_of_none hbo hdx)]; exact hbo
  exact .inr ⟨x, a, rfl, ha, k.mono (e1.trans eN)⟩
theorem r_makeG (ht : EvA t σ H [.int a]) (ha : a < 0 ∨ 1000000000 < a) (k : RaiR Z (Str.ofString "goal") H E) : tMake Z.c_RefillRule (spOr sp (sp_RX Z (Str.ofString "goal"))) [] E t σ H Q := ht H (Ex.refl H) _ fun H1 e1 x dx hx hdx hne => by
  have eN : Ex H1 (L2.upd (L2.upd H1 dx (.own x)) x (.ins Z.c_RefillRule dx [])) := fun b o hbo => by
    rw [upd_ne (ne_of_none hbo hx), upd_ne (ne_of_none hbo hdx)]; exact hbo
  exact .inr ⟨x, a, rfl, ha, k.mono (e1.trans eN)⟩
theorem r_makeSA {b : Int} (ht : EvA t σ H [.int a]) (hk : EvA tk σ H [.int b]) (ha : a < 0 ∨ 1000000000 < a) (k : ∀ cls d H', Ex H H' → ErrRow Z cls d H' [.str "InvalidRule", .str "amount"] → E cls d H') : tMakeK Z.c_SoldRule 1 1 (spOr sp (sp_SX Z)) (fun vs zs => vs ++ zs) E t tk σ H Q :=
  ht H (Ex.refl H) _ fun H1 e1 => hk H1 e1 _ fun H2 e2 => ⟨rfl, rfl, fun x dx hx hdx hne => .inr ⟨x, dx, a, b, rfl, upd_same, .inl ⟨ha, fun cls d H' ⟨dd, h1, h2, al, hd⟩ => k cls d H' ((e1.trans e2).trans (made_ex hx hdx al)) (.inr (.inr ⟨dd, _, h1, h2, hd, rfl⟩))⟩⟩⟩
theorem r_makeSM {b : Int} (ht : EvA t σ H [.int a]) (hk : EvA tk σ H [.int b]) (a0 : 0 ≤ a) (a1 : a ≤ 1000000000) (hb : b < -1000000000 ∨ 1000000000 < b) (k : ∀ cls d H', Ex H H' → ErrRow Z cls d H' [.str "InvalidRule", .str "more"] → E cls d H') : tMakeK Z.c_SoldRule 1 1 (spOr sp (sp_SX Z)) (fun vs zs => vs ++ zs) E t tk σ H Q :=
  ht H (Ex.refl H) _ fun H1 e1 => hk H1 e1 _ fun H2 e2 => ⟨rfl, rfl, fun x dx hx hdx hne => .inr ⟨x, dx, a, b, rfl, upd_same, .inr ⟨a0, a1, hb, fun cls d H' ⟨dd, h1, h2, al, hd⟩ => k cls d H' ((e1.trans e2).trans (made_ex hx hdx al)) (.inr (.inr ⟨dd, _, h1, h2, hd, rfl⟩))⟩⟩⟩
/-! outcomes that are refused -/
theorem z_out {t1 t2 t3 t4 : TE} {ds : List Int} (hr : ∀ G, Ev t1 σ G (.ref r)) (h2 : EvU t2 σ H (ds.map V.int)) (h3 : ∀ G, Ev t3 σ G (.int life)) (h4 : ∀ G, Ev t4 σ G (.int n)) (hl : ds.length ≤ 24) (hE : ∀ G, Ex H G → RunE Z ds life n G E) : tCall (spOr sp (sp_outcomeX K Z)) [] E (tCons t1 (tCons t2 (tCons t3 (tCons t4 tNil)))) σ H Q :=
  hr H H (Ex.refl _) _ fun H1 e1 => h2 H1 e1 _ fun td H2 _ e2 hp => h3 H2 H2 (Ex.refl _) _ fun H3 e3 => h4 H3 H3 (Ex.refl _) _ fun H4 e4 => .inr ⟨r, td, ds, life, n, rfl, st_of ((e3.trans e4) _ _ hp), hl, hE H4 ((e1.trans e2).trans (e3.trans e4))⟩
/-! data that an expression gives -/
def EvD (K : PySem.W.Frag) (te : TE) (σ : L2.St) (H : Hp) (d : PyData) : Prop := ∀ H1, Ex H H1 → ∀ Q : VK, (∀ x H2, Ex H1 H2 → Dp K H2 x d → Q x H2) → te σ H1 Q
theorem evd_ev {v : V} {d : PyData} (h : Ev te σ H v) (hd : ∀ H1, Ex H H1 → Dp K H1 v d) : EvD K te σ H d := fun H1 e Q q => h H1 e _ fun H2 e2 => q v H2 e2 (hd H2 (e.trans e2))
/-- [a row for x in xs] -/
theorem evd_rows {jj : Nat} {a : Addr} (rows : List (List V)) (hl : Ev tl σ H (.ref a)) (hx : SqL K H a xs) (hlen : xs.length = rows.length) (hz : xs.length ≤ 1000) (hpl : ∀ r ∈ rows, ∀ x ∈ r, plainV x) (hw : ∀ x, wipe ((wipe σ [jj]).set jj (some x)) [jj] = wipe σ [jj])
    (he : ∀ (i : Nat) (x : V) (r : List V) H1, Ex H H1 → xs[i]? = some x → rows[i]? = some r → EvU te ((wipe σ [jj]).set jj (some x)) H1 r) : EvD K (tLc (iList K tl) (gName jj) tYes te [jj]) σ H (.list (rows.map fun xs => .tuple (xs.map vD))) := fun H0 e0 Q qq => hl H0 e0 _ fun H1 e1 => ⟨a, rfl, ⟨xs, ex_l (e0.trans e1) hx⟩, fun Dl hD =>
  lc_list (xs := xs) (fun i H' => Ex H1 H' ∧ ∃ ts : List Addr, ts.length = i ∧ H' Dl = some (.lst (ts.map V.ref)) ∧ ∀ (k : Nat) t r, ts[k]? = some t → rows[k]? = some r → H' t = some (.tup r)) ⟨Ex.new hD, [], rfl, upd_same, fun k t r h => by simp at h⟩ (fun i H' _ p => ex_l ((e0.trans e1).trans p.1) hx) (fun i x H' hi p => ⟨hw x, by
    obtain ⟨eH, ts, hlt, hL, hr⟩ := p
    have hil : i < xs.length := (List.getElem?_eq_some_iff.mp hi).1
    obtain ⟨row, hrow⟩ : ∃ r, rows[i]? = some r := ⟨_, List.getElem?_eq_getElem (by omega)⟩
    show te ((wipe σ [jj]).set jj (some x)) H' _
    refine he i x row H' ((e0.trans e1).trans eH) hi hrow H' (Ex.refl _) _ fun p H3 np e3 hp => ?_
    have h3 := e3 _ _ hL
    have npD : p ≠ Dl := fun z => by rw [z, hL] at np; cases np
    refine ⟨_, h3, by rw [List.length_map, hlt]; exact sz_lt (by omega), Ex.mut (eH.trans e3) hD, ts ++ [p], by rw [List.length_append, hlt]; rfl, by rw [upd_same, List.map_append]; rfl, fun k t r h1 h2 => ?_⟩
    by_cases hk : k < ts.length
    · rw [List.getElem?_append_left hk] at h1
      have y := hr k t r h1 h2
      rw [upd_ne (fun z => by rw [z, hL] at y; cases y)]
      exact e3 _ _ y
    · have hk2 : k = ts.length := by
        have := (List.getElem?_eq_some_iff.mp h1).1
        rw [List.length_append] at this
        simp at this
        omega
      rw [hk2, List.getElem?_append_right (Nat.le_refl _), Nat.sub_self] at h1
      have ep : p = t := by simpa using h1
      subst ep
      rw [hk2, hlt, hrow] at h2
      cases h2
      rw [upd_ne npD]; exact hp⟩) fun H' p => by
    obtain ⟨eH, ts, hlt, hL, hr⟩ := p
    exact qq (.ref Dl) H' (e1.trans eH) (.lst (sq_of hL) (dp_rows (by omega) fun i t r h1 h2 => ⟨st_of (hr i t r h1 h2), hpl r (List.mem_of_getElem? h2)⟩))⟩
/-- [row] * 2 -/
theorem evd_twice {row : List V} (h : EvU te σ H row) (hc : Ev tb σ H (.int 2)) (hpl : ∀ x ∈ row, plainV x) : EvD K (tOp rRep (tLst (tCons te tNil)) tb) σ H (.list [.tuple (row.map vD), .tuple (row.map vD)]) := fun H1 e Q qq =>
  h H1 e _ fun p H2 np e2 hp => ⟨sz_of (by show 1 ≤ 100000; decide), fun r hr => hc _ (e.trans (e2.trans (Ex.new hr))) _ fun H3 e3 => by
    have hp3 := e3 _ _ ((Ex.new (o := .lst [.ref p]) hr) _ _ hp)
    refine ⟨r, 2, [.ref p], rfl, rfl, e3 _ _ upd_same, by decide, by decide, by show 1 * 2 ≤ sizeLine; decide, fun u hu => ?_⟩
    have hp4 := (Ex.new (o := .lst (List.replicate (Int.toNat 2) [V.ref p]).flatten) hu) _ _ hp3
    exact qq _ _ (((e2.trans (Ex.new hr)).trans e3).trans (Ex.new hu)) (.lst (sq_of upd_same) (.cons (dp_row (st_of hp4) hpl) (.cons (dp_row (st_of hp4) hpl) .nil)))⟩
/-- a list of three rows is named -/
theorem q_rows3 {t1 t2 t3 : TE} {r1 r2 r3 : List V} (h1 : EvU t1 σ H r1) (h2 : EvU t2 σ H r2) (h3 : EvU t3 σ H r3) (k : ∀ p a b c H', Ex H H' → H' p = some (.lst [.ref a, .ref b, .ref c]) → H' a = some (.tup r1) → H' b = some (.tup r2) → H' c = some (.tup r3) → tz D (σ.set m (some (.ref p))) H') :
    tSeq (tAsg (tLst (tCons t1 (tCons t2 (tCons t3 tNil)))) (gName m)) tz D σ H := h1 H (Ex.refl _) _ fun a H1 _ e1 ha => h2 H1 e1 _ fun b H2 _ e2 hb => h3 H2 (e1.trans e2) _ fun c H3 _ e3 hc => ⟨by show 3 ≤ sizeLine; decide, fun p hp => by
    have e4 : Ex H3 (L2.upd H3 p (.lst [.ref a, .ref b, .ref c])) := Ex.new hp
    exact k p a b c _ (((e1.trans e2).trans e3).trans e4) upd_same ((e2.trans (e3.trans e4)) _ _ ha) ((e3.trans e4) _ _ hb) (e4 _ _ hc)⟩
end
variable {P : Program} {w : World} {K : PySem.W.Frag} {mg : Str → Option Value} {base : Heap} {Z : Ad}
theorem z_list (T : Txt K mg Z) {σ : L2.St} {H : Hp} {E : XK} {Q : VK} {r : Addr} {life n : Int} {t1 t2 t3 t4 : TE} {ds : List Int} (hr : ∀ G, Ev t1 σ G (.ref r)) (h2 : EvU t2 σ H (ds.map V.int)) (h3 : ∀ G, Ev t3 σ G (.int life)) (h4 : ∀ G, Ev t4 σ G (.int n)) (hl : ds.length ≤ 24) (hE : ∀ G, Ex H G → RunE Z ds life n G E) : tListGz (tCallGz K (sp_runZ K Z) E (tCons t1 (tCons t2 (tCons t3 (tCons t4 tNil))))) σ H Q :=
  hr H H (Ex.refl _) _ fun H1 e1 => h2 H1 e1 _ fun td H2 _ e2 hp => h3 H2 H2 (Ex.refl _) _ fun H3 e3 => h4 H3 H3 (Ex.refl _) _ fun H4 e4 => by
    obtain ⟨E', a, b, c⟩ := run_alone T (hE H4 ((e1.trans e2).trans (e3.trans e4)))
    exact ⟨E', ⟨r, td, ds, life, n, rfl, st_of ((e3.trans e4) _ _ hp), hl, a⟩, b, c⟩
section
variable {X : Cx} {σ : L2.St} {H : Hp} {tw tb : TE} {q : Addr} {fs : List Addr} {E : XK} {j : Nat} {D : Ends} {tz tu : TS} {d2 : PyData}
theorem q_outsNe (rows : List (List V)) (hw : Ev tw σ H (.ref q)) (hq : SqL K H q (fs.map V.ref)) (hwp : ∀ x, wipe ((wipe σ [j]).set j (some x)) [j] = wipe σ [j]) (hsl : ∀ x, ((wipe σ [j]).set j (some x))[j]? = some (some x)) (hlen : fs.length = rows.length) (hn : fs.length ≤ 100) (hpl : ∀ r ∈ rows, ∀ x ∈ r, plainV x)
    (h2 : EvD K tb σ H d2) (s1 : SeqAt.shaped (.list (rows.map fun xs => .tuple (xs.map vD))) = true) (s2 : SeqAt.shaped d2 = true) (he : PyData.eqv (.list (rows.map fun xs => .tuple (xs.map vD))) d2 = true)
    (hc : ∀ H1, Ex H H1 → ∀ Hz N, Frz X σ H1 Hz N → ∀ (i : Nat) f xs, fs[i]? = some f → rows[i]? = some xs → Cal P w K mg base (L2.CX P w) 11 f (sp_rX Z xs) Hz) (k : ∀ H', Ex H H' → tz D σ H') :
    tSeq (tIfS (tTest (tOp (rNeD K) (tLcF X (iList K tw) (gName j) (tCall (sp_out P w K mg base Z) [] E (tCons (tVar j) tNil)) [j]) tb)) tu tNext) tz D σ H := by
  unfold tSeq tIfS tTest tOp
  refine lcF_outs hw hq hwp hsl hlen hn hc fun D1 ts H1 e1 hD hl hr => ?_
  refine h2 H1 e1 _ fun y H2 e2 hy => ?_
  refine ⟨_, d2, .lst (sq_of (e2 _ _ hD)) (dp_rows hl fun i t r a b => ⟨st_of (e2 _ _ (hr i t r a b)), hpl r (List.mem_of_getElem? b)⟩), hy, s1, s2, ?_⟩
  rw [he]
  exact ⟨false, rfl, k H2 (e1.trans e2)⟩
theorem s_outsEq (rows : List (List V)) (hw : Ev tw σ H (.ref q)) (hq : SqL K H q (fs.map V.ref)) (hwp : ∀ x, wipe ((wipe σ [j]).set j (some x)) [j] = wipe σ [j]) (hsl : ∀ x, ((wipe σ [j]).set j (some x))[j]? = some (some x)) (hlen : fs.length = rows.length) (hn : fs.length ≤ 100) (hpl : ∀ r ∈ rows, ∀ x ∈ r, plainV x)
    (h2 : EvD K tb σ H d2) (s1 : SeqAt.shaped (.list (rows.map fun xs => .tuple (xs.map vD))) = true) (s2 : SeqAt.shaped d2 = true) (he : PyData.eqv (.list (rows.map fun xs => .tuple (xs.map vD))) d2 = true)
    (hc : ∀ H1, Ex H H1 → ∀ Hz N, Frz X σ H1 Hz N → ∀ (i : Nat) f xs, fs[i]? = some f → rows[i]? = some xs → Cal P w K mg base (L2.CX P w) 11 f (sp_rX Z xs) Hz) (k : ∀ H', Ex H H' → D.rt (.bl true) H') :
    tRet (tOp (rEqD K) (tLcF X (iList K tw) (gName j) (tCall (sp_out P w K mg base Z) [] E (tCons (tVar j) tNil)) [j]) tb) D σ H := by
  unfold tRet tOp
  refine lcF_outs hw hq hwp hsl hlen hn hc fun D1 ts H1 e1 hD hl hr => ?_
  refine h2 H1 e1 _ fun y H2 e2 hy => ?_
  refine ⟨_, d2, .lst (sq_of (e2 _ _ hD)) (dp_rows hl fun i t r a b => ⟨st_of (e2 _ _ (hr i t r a b)), hpl r (List.mem_of_getElem? b)⟩), hy, s1, s2, ?_⟩
  rw [he]
  exact k H2 (e1.trans e2)
end
def nmRef : Nat → Nat → Str := fun _ _ => "_law_refused.<locals>." ++ "<lambda>"
def rowsR : List (List V) := [[.str "InvalidRule", .str "amount"], [.str "InvalidRule", .str "goal"], [.str "InvalidRule", .str "amount"], [.str "InvalidRule", .str "more"], [.str "InvalidRule", .str "more"]]
def rowsB : List (List V) := [[.str "InvalidBakery", .str "bakes", .int (-1)], [.str "InvalidBakery", .str "demands", .int 1], [.str "InvalidBakery", .str "life", .int (-1)]]
def rowsN : List (List V) := [[.str "InvalidNumber"], [.str "InvalidNumber"]]
theorem plR : ∀ r ∈ rowsR, ∀ x ∈ r, plainV x := by simp [rowsR, plainV]
theorem plB : ∀ r ∈ rowsB, ∀ x ∈ r, plainV x := by simp [rowsB, plainV]
theorem plN : ∀ r ∈ rowsN, ∀ x ∈ r, plainV x := by simp [rowsN, plainV]
def sp_lawrefused (Z : Ad) : Sp := fun vs H Q _ => ∃ r : Addr, vs = [.ref r] ∧ H Z.tb__law_refused = some (.tbl #[]) ∧ ∀ H', Q (.bl true) H'
set_option maxHeartbeats 16000000 in
theorem ok__law_refused (T : Txt K mg Z) (hP : P = Z.P) (TB : LamX.TabB base mg Z.k__law_refused Z.tb__law_refused) : FnOk P w K mg base CX0 13 Z.f__law_refused Z.d__law_refused p__law_refused (sp_lawrefused Z) := by
  refine T.FC__law_refused.ok sc__law_refused (fun vs H Q E h => ?_) (fun Ar outer s H vs Q E hr h => ?_)
  · obtain ⟨r, rfl, _⟩ := h
    rfl
  · obtain ⟨r, rfl, hT0, k⟩ := h
    have TBm : (Z.tb__law_refused, nmRef) ∈ [(Z.tb__law_refused, nmRef)] := List.mem_singleton.mpr rfl
    have TBu : ∀ p ∈ [(Z.tb__law_refused, nmRef)], p.1 = Z.tb__law_refused → p.2 = nmRef := fun p hp _ => by rw [List.mem_singleton.mp hp]
    have T0 : TabsN [(Z.tb__law_refused, nmRef)] H := fun p hp => by rw [List.mem_singleton.mp hp]; exact TabN.nil hT0
    have p9 : (10 : Int) ^ (9 : Int).toNat = 1000000000 := by decide
    refine ⟨_, (pss_cons (ps_set (i := 4) sc__law_refused.nd rfl (Or.inr rfl) (pe_op op_pow pe_int pe_int))
      (pss_cons (ps_set (i := 1) sc__law_refused.nd rfl (Or.inl rfl) (pe_lst (pa_cons (pe_lamE TB rfl TBm rfl TBu rfl (fun y hy e => ndef_free (sc := defScope s__law_refused) (fr := []) (by decide +kernel) y hy e)) (pa_cons (pe_lamD TB rfl TBm rfl TBu pe_int rfl (fun y hy e => ndef_free (sc := defScope s__law_refused) (fr := []) (by decide +kernel) y hy e)) (pa_cons (pe_lamD TB rfl TBm rfl TBu pe_int rfl (fun y hy e => ndef_free (sc := defScope s__law_refused) (fr := []) (by decide +kernel) y hy e)) pa_nil)))))
      (pss_cons (ps_set (i := 1) sc__law_refused.nd rfl (Or.inl rfl) (pe_op op_cat (pv 1) (pe_lst (pa_cons (pe_lamD TB rfl TBm rfl TBu pe_int rfl (fun y hy e => ndef_free (sc := defScope s__law_refused) (fr := []) (by decide +kernel) y hy e)) (pa_cons (pe_lamD TB rfl TBm rfl TBu pe_int rfl (fun y hy e => ndef_free (sc := defScope s__law_refused) (fr := []) (by decide +kernel) y hy e)) pa_nil)))))
      (pss_cons (ps_set (i := 2) sc__law_refused.nd rfl (Or.inl rfl) (pe_lst (pa_cons pe_str (pa_cons pe_str (pa_cons pe_str (pa_cons pe_str (pa_cons pe_str pa_nil)))))))
      (pss_cons (ps_if (pt_cmpR (op_neD hr.units) (pe_lcF (own := [("_law_work", 5)]) (sc := { kind := PySem.ScopeKind.function, names := [ (PySem.Str.ofString ".0", PySem.NameKind.local), (PySem.Str.ofString "_law_work", PySem.NameKind.local), (PySem.Str.ofString "_law_outcome", PySem.NameKind.globalImplicit)], isGenerator := false, isCoroutine := false, more := [] : PySem.Scope }) rfl sc__law_refused.nd (pi_listK K rfl (pv 1)) (blkOk_by (own := [("_law_work", 5)]) (N := n__law_refused) (sc := defScope s__law_refused) (scope := { kind := PySem.ScopeKind.function, names := [ (PySem.Str.ofString ".0", PySem.NameKind.local), (PySem.Str.ofString "_law_work", PySem.NameKind.local), (PySem.Str.ofString "_law_outcome", PySem.NameKind.globalImplicit)], isGenerator := false, isCoroutine := false, more := [] : PySem.Scope }) (by decide +kernel)) (by decide +kernel) (fun _ _ _ _ _ => (pg_name (i := 5) sc__law_refused.nd rfl (Or.inl rfl))) (fun _ _ _ _ _ => (pe_call (ok__law_outcome (P := P) (w := w) (base := base) T) (hr.mono (by decide)) (by rfl) T.g__law_outcome T.F__law_outcome.kp T.b__law_outcome .nil pass0 (pa_cons (pv 5) pa_nil)))) (pe_lc (own := [("_law_part", 6)]) rfl sc__law_refused.nd (pi_listK K rfl (pv 2)) (blkOk_by (own := [("_law_part", 6)]) (N := n__law_refused) (sc := defScope s__law_refused) (scope := { kind := PySem.ScopeKind.function, names := [(PySem.Str.ofString ".0", PySem.NameKind.local), (PySem.Str.ofString "_law_part", PySem.NameKind.local)], isGenerator := false, isCoroutine := false, more := [] : PySem.Scope }) (by decide +kernel)) (fun _ _ _ _ _ => (pg_name (i := 6) sc__law_refused.nd rfl (Or.inl rfl))) (fun _ _ _ _ _ => pts_nil) (fun _ _ _ _ _ => (pe_tup (pa_cons pe_str (pa_cons (pv 6) pa_nil))))) (nomark _)) (pss_one (ps_ret pe_bl)) pss_nil)
      (pss_cons (ps_set (i := 1) sc__law_refused.nd rfl (Or.inl rfl) (pe_lst (pa_cons (pe_lamE TB rfl TBm rfl TBu rfl (fun y hy e => ndef_free (sc := defScope s__law_refused) (fr := []) (by decide +kernel) y hy e)) (pa_cons (pe_lamD TB rfl TBm rfl TBu pe_int rfl (fun y hy e => ndef_free (sc := defScope s__law_refused) (fr := []) (by decide +kernel) y hy e)) pa_nil))))
      (pss_cons (ps_expr (pe_bm PySem.F.plainAttrs_list PySem.F.slot_list_append PySem.F.type_list_append mt_append (pv 1) (pa_cons (pe_lamD TB rfl TBm rfl TBu pe_int rfl (fun y hy e => ndef_free (sc := defScope s__law_refused) (fr := []) (by decide +kernel) y hy e)) pa_nil)))
      (pss_cons (ps_set (i := 3) sc__law_refused.nd rfl (Or.inl rfl) (pe_lst (pa_cons (pe_tup (pa_cons pe_str (pa_cons pe_str (pa_cons (pe_op op_sub pe_int pe_int) pa_nil)))) (pa_cons (pe_tup (pa_cons pe_str (pa_cons pe_str (pa_cons pe_int pa_nil)))) (pa_cons (pe_tup (pa_cons pe_str (pa_cons pe_str (pa_cons (pe_op op_sub pe_int pe_int) pa_nil)))) pa_nil)))))
      (pss_cons (ps_if (pt_cmpR (op_neD hr.units) (pe_lcF (own := [("_law_work", 5)]) (sc := { kind := PySem.ScopeKind.function, names := [ (PySem.Str.ofString ".0", PySem.NameKind.local), (PySem.Str.ofString "_law_work", PySem.NameKind.local), (PySem.Str.ofString "_law_outcome", PySem.NameKind.globalImplicit)], isGenerator := false, isCoroutine := false, more := [] : PySem.Scope }) rfl sc__law_refused.nd (pi_listK K rfl (pv 1)) (blkOk_by (own := [("_law_work", 5)]) (N := n__law_refused) (sc := defScope s__law_refused) (scope := { kind := PySem.ScopeKind.function, names := [ (PySem.Str.ofString ".0", PySem.NameKind.local), (PySem.Str.ofString "_law_work", PySem.NameKind.local), (PySem.Str.ofString "_law_outcome", PySem.NameKind.globalImplicit)], isGenerator := false, isCoroutine := false, more := [] : PySem.Scope }) (by decide +kernel)) (by decide +kernel) (fun _ _ _ _ _ => (pg_name (i := 5) sc__law_refused.nd rfl (Or.inl rfl))) (fun _ _ _ _ _ => (pe_call (ok__law_outcome (P := P) (w := w) (base := base) T) (hr.mono (by decide)) (by rfl) T.g__law_outcome T.F__law_outcome.kp T.b__law_outcome .nil pass0 (pa_cons (pv 5) pa_nil)))) (pv 3) (nomark _)) (pss_one (ps_ret pe_bl)) pss_nil)
      (pss_cons (ps_set (i := 1) sc__law_refused.nd rfl (Or.inl rfl) (pe_lst (pa_cons (pe_lamE TB rfl TBm rfl TBu rfl (fun y hy e => ndef_free (sc := defScope s__law_refused) (fr := []) (by decide +kernel) y hy e)) (pa_cons (pe_lamD TB rfl TBm rfl TBu pe_int rfl (fun y hy e => ndef_free (sc := defScope s__law_refused) (fr := []) (by decide +kernel) y hy e)) pa_nil))))
      (pss_one (ps_ret (pe_cmpR (op_eqD hr.units) (pe_lcF (own := [("_law_work", 5)]) (sc := { kind := PySem.ScopeKind.function, names := [ (PySem.Str.ofString ".0", PySem.NameKind.local), (PySem.Str.ofString "_law_work", PySem.NameKind.local), (PySem.Str.ofString "_law_outcome", PySem.NameKind.globalImplicit)], isGenerator := false, isCoroutine := false, more := [] : PySem.Scope }) rfl sc__law_refused.nd (pi_listK K rfl (pv 1)) (blkOk_by (own := [("_law_work", 5)]) (N := n__law_refused) (sc := defScope s__law_refused) (scope := { kind := PySem.ScopeKind.function, names := [ (PySem.Str.ofString ".0", PySem.NameKind.local), (PySem.Str.ofString "_law_work", PySem.NameKind.local), (PySem.Str.ofString "_law_outcome", PySem.NameKind.globalImplicit)], isGenerator := false, isCoroutine := false, more := [] : PySem.Scope }) (by decide +kernel)) (by decide +kernel) (fun _ _ _ _ _ => (pg_name (i := 5) sc__law_refused.nd rfl (Or.inl rfl))) (fun _ _ _ _ _ => (pe_call (ok__law_outcome (P := P) (w := w) (base := base) T) (hr.mono (by decide)) (by rfl) T.g__law_outcome T.F__law_outcome.kp T.b__law_outcome .nil pass0 (pa_cons (pv 5) pa_nil)))) (pe_op op_rep (pe_lst (pa_cons (pe_tup (pa_cons pe_str pa_nil)) pa_nil)) pe_int) (nomark _)))))))))))))), ?_⟩
    refine q_asg (v := .int 1000000000) (Ev.int_eq (ev_op ev_c ev_c (rv_I ⟨by decide, by decide, by decide⟩)) p9) fun H1 e1 => ?_
    refine q_works3 (T0.ext e1) fun f1 f2 f3 pw H2 eN2 T2 LL1 LL2 LL3 hw2 => ?_
    refine q_worksC T2 (ev_var rfl) hw2 (by show 3 ≤ 100; decide) fun f4 f5 pw2 H3 eN3 T3 LL4 LL5 hw3 => ?_
    have LL1 := LL1.ext eN3
    have LL2 := LL2.ext eN3
    have LL3 := LL3.ext eN3
    refine q_asgL (el_lst (ea_cons ev_c (ea_cons ev_c (ea_cons ev_c (ea_cons ev_c (ea_cons ev_c ea_nil))))) (by show 5 ≤ 100000; decide)) fun pp H4 _ e4 hpp => ?_
    have LL1 := LL1.ext (extN_of e4)
    have LL2 := LL2.ext (extN_of e4)
    have LL3 := LL3.ext (extN_of e4)
    have LL4 := LL4.ext (extN_of e4)
    have LL5 := LL5.ext (extN_of e4)
    have T4 := T3.ext e4
    have hw4 : H4 pw2 = some (.lst ([f1, f2, f3, f4, f5].map V.ref)) := e4 _ _ hw3
    clear hw3 hw2 T2 T3
    refine q_outsNe (fs := [f1, f2, f3, f4, f5]) rowsR (ev_var rfl) (sq_of hw4) (fun _ => rfl) (fun _ => rfl) rfl (by show 5 ≤ 100; decide) plR
      (evd_rows rowsR (ev_var rfl) (sq_of hpp) rfl (by show 5 ≤ 1000; decide) plR (fun _ => rfl) fun i x r G eG hx hr => ?_) (by decide +kernel) (by decide +kernel) (by decide +kernel) (fun G eG Hz N fz i f xs hf hx => ?_) fun H5 e5 => ?_
    · rcases i with _ | _ | _ | _ | _ | i
      · cases hx; cases hr; exact eu_tup (ea_cons ev_c (ea_cons (ev_var rfl) ea_nil)) (by show 2 ≤ 100000; decide)
      · cases hx; cases hr; exact eu_tup (ea_cons ev_c (ea_cons (ev_var rfl) ea_nil)) (by show 2 ≤ 100000; decide)
      · cases hx; cases hr; exact eu_tup (ea_cons ev_c (ea_cons (ev_var rfl) ea_nil)) (by show 2 ≤ 100000; decide)
      · cases hx; cases hr; exact eu_tup (ea_cons ev_c (ea_cons (ev_var rfl) ea_nil)) (by show 2 ≤ 100000; decide)
      · cases hx; cases hr; exact eu_tup (ea_cons ev_c (ea_cons (ev_var rfl) ea_nil)) (by show 2 ≤ 100000; decide)
      · simp at hx
    · rcases i with _ | _ | _ | _ | _ | i
      any_goals (cases hf; cases hx)
      · obtain ⟨c1, a1, b1⟩ := LL1
        refine lam_cal (N := []) (ps := []) (fr := []) (k := 10) (S0 := G) (clo_frz (js := []) fz (eG _ _ a1) (eG _ _ b1) rfl (fun y hy e => ndef_free (sc := defScope s__law_refused) (fr := []) (by decide +kernel) y hy e) (ndef_fr (sc := defScope s__law_refused) (by decide +kernel)) rfl) (nscope_by (by dsimp only; decide +kernel)) backsX (fun _ _ us hl => match us, hl with | [], _ => rfl) (fun vs H Q E q => by rw [q.1]; rfl) fz.ex_
          (cl_none fz (fun y hy e => ndef_free (sc := defScope s__law_refused) (fr := []) (by decide +kernel) y hy e)) (fun A outer s H vs Q E hr eS x0 q => ?_)
        obtain ⟨rfl, rr⟩ := q
        refine ⟨_, pe_make T.mk_Rule (okM_Rule___init__ T hP) (hr.mono (by decide)) (by rfl) T.g_Rule T.b_Rule___init__ .nil (passes_call (takes_of rfl rfl rfl rfl) (fun _ _ _ _ h => h)) (pa_cons (pe_op op_sub pe_int pe_int) pa_nil), ?_⟩
        exact r_makeR (ea_cons (ev_op ev_c ev_c rv_I0) ea_nil) (by decide) (fun d H3 e n x => rX_mix rr _ _ H3 e (.inr (.inr ⟨d, _, rfl, rfl, x, rfl⟩)))
      · obtain ⟨c1, t1, a1, b1, i1⟩ := LL2
        refine lam_calD (N := ["_law_a", "_law_far"]) (p := "_law_a") (fr := ["_law_far"]) (k := 10) (S0 := G) (clo_frz (js := [4]) fz (eG _ _ a1) (eG _ _ b1) rfl (fun y hy e => ndef_free (sc := defScope s__law_refused) (fr := []) (by decide +kernel) y hy e) (ndef_fr (sc := defScope s__law_refused) (by decide +kernel)) rfl) (fz.ex_ _ _ (eG _ _ i1)) (nscope_by (by dsimp only; decide +kernel)) backsX (fun _ _ u s o n ho hs => BindsTo.of_defaults (T := t1) rfl ho hs rfl rfl) (fun vs H Q E q => q.1) fz.ex_
          (cl_none fz (fun y hy e => ndef_free (sc := defScope s__law_refused) (fr := []) (by decide +kernel) y hy e)) (fun A outer s H Q E hr eS x0 q => ?_)
        obtain ⟨_, rr⟩ := q
        refine ⟨_, pe_make T.mk_RefillRule (okM_RefillRule___init__ T hP) (hr.mono (by decide)) (by rfl) T.g_RefillRule T.b_RefillRule___init__ .nil (passes_call (takes_of rfl rfl rfl rfl) (fun _ _ _ _ h => h)) (pa_cons (pe_op op_add (pv 1) pe_int) pa_nil), ?_⟩
        exact r_makeG (ea_cons (ev_op (ev_var rfl) ev_c rv_I0) ea_nil) (by decide) (fun d H3 e n x => rX_mix rr _ _ H3 e (.inr (.inr ⟨d, _, rfl, rfl, x, rfl⟩)))
      · obtain ⟨c1, t1, a1, b1, i1⟩ := LL3
        refine lam_calD (N := ["_law_b", "_law_far"]) (p := "_law_b") (fr := ["_law_far"]) (k := 10) (S0 := G) (clo_frz (js := [4]) fz (eG _ _ a1) (eG _ _ b1) rfl (fun y hy e => ndef_free (sc := defScope s__law_refused) (fr := []) (by decide +kernel) y hy e) (ndef_fr (sc := defScope s__law_refused) (by decide +kernel)) rfl) (fz.ex_ _ _ (eG _ _ i1)) (nscope_by (by dsimp only; decide +kernel)) backsX (fun _ _ u s o n ho hs => BindsTo.of_defaults (T := t1) rfl ho hs rfl rfl) (fun vs H Q E q => q.1) fz.ex_
          (cl_none fz (fun y hy e => ndef_free (sc := defScope s__law_refused) (fr := []) (by decide +kernel) y hy e)) (fun A outer s H Q E hr eS x0 q => ?_)
        obtain ⟨_, rr⟩ := q
        refine ⟨_, pe_makeK T.mk_SoldRule (okM_SoldRule___init__ T hP) (hr.mono (by decide)) (by rfl) T.g_SoldRule T.b_SoldRule___init__ (passes_call (takes_of rfl rfl rfl rfl) (fun _ _ _ _ h => h)) (pa_cons (pe_op op_add (pv 1) pe_int) pa_nil) (pk_cons (pe_op op_add (pv 1) pe_int) pk_nil), ?_⟩
        exact r_makeSA (ea_cons (ev_op (ev_var rfl) ev_c rv_I0) ea_nil) (ea_cons (ev_op (ev_var rfl) ev_c rv_I0) ea_nil) (by decide) (fun cls d H3 e x => rX_mix rr _ _ H3 e x)
      · obtain ⟨c1, t1, a1, b1, i1⟩ := LL4
        refine lam_calD (N := ["_law_c", "_law_far"]) (p := "_law_c") (fr := ["_law_far"]) (k := 10) (S0 := G) (clo_frz (js := [4]) fz (eG _ _ a1) (eG _ _ b1) rfl (fun y hy e => ndef_free (sc := defScope s__law_refused) (fr := []) (by decide +kernel) y hy e) (ndef_fr (sc := defScope s__law_refused) (by decide +kernel)) rfl) (fz.ex_ _ _ (eG _ _ i1)) (nscope_by (by dsimp only; decide +kernel)) backsX (fun _ _ u s o n ho hs => BindsTo.of_defaults (T := t1) rfl ho hs rfl rfl) (fun vs H Q E q => q.1) fz.ex_
          (cl_none fz (fun y hy e => ndef_free (sc := defScope s__law_refused) (fr := []) (by decide +kernel) y hy e)) (fun A outer s H Q E hr eS x0 q => ?_)
        obtain ⟨_, rr⟩ := q
        refine ⟨_, pe_makeK T.mk_SoldRule (okM_SoldRule___init__ T hP) (hr.mono (by decide)) (by rfl) T.g_SoldRule T.b_SoldRule___init__ (passes_call (takes_of rfl rfl rfl rfl) (fun _ _ _ _ h => h)) (pa_cons pe_int pa_nil) (pk_cons (pe_op op_add (pv 1) pe_int) pk_nil), ?_⟩
        exact r_makeSM (ea_cons ev_c ea_nil) (ea_cons (ev_op (ev_var rfl) ev_c rv_I0) ea_nil) (by decide) (by decide) (by decide) (fun cls d H3 e x => rX_mix rr _ _ H3 e x)
      · obtain ⟨c1, t1, a1, b1, i1⟩ := LL5
        refine lam_calD (N := ["_law_e", "_law_far"]) (p := "_law_e") (fr := ["_law_far"]) (k := 10) (S0 := G) (clo_frz (js := [4]) fz (eG _ _ a1) (eG _ _ b1) rfl (fun y hy e => ndef_free (sc := defScope s__law_refused) (fr := []) (by decide +kernel) y hy e) (ndef_fr (sc := defScope s__law_refused) (by decide +kernel)) rfl) (fz.ex_ _ _ (eG _ _ i1)) (nscope_by (by dsimp only; decide +kernel)) backsX (fun _ _ u s o n ho hs => BindsTo.of_defaults (T := t1) rfl ho hs rfl rfl) (fun vs H Q E q => q.1) fz.ex_
          (cl_none fz (fun y hy e => ndef_free (sc := defScope s__law_refused) (fr := []) (by decide +kernel) y hy e)) (fun A outer s H Q E hr eS x0 q => ?_)
        obtain ⟨_, rr⟩ := q
        refine ⟨_, pe_makeK T.mk_SoldRule (okM_SoldRule___init__ T hP) (hr.mono (by decide)) (by rfl) T.g_SoldRule T.b_SoldRule___init__ (passes_call (takes_of rfl rfl rfl rfl) (fun _ _ _ _ h => h)) (pa_cons pe_int pa_nil) (pk_cons (pe_op op_sub (pe_op op_sub pe_int (pv 1)) pe_int) pk_nil), ?_⟩
        exact r_makeSM (ea_cons ev_c ea_nil) (ea_cons (ev_op (ev_op ev_c (ev_var rfl) rv_I0) ev_c rv_I0) ea_nil) (by decide) (by decide) (by decide) (fun cls d H3 e x => rX_mix rr _ _ H3 e x)
      · simp at hf
    have T5 := T4.ext e5
    clear LL1 LL2 LL3 LL4 LL5 hw4 hpp T4
    refine q_works T5 fun f1 f2 pw3 H6 eN6 T6 LL1 LL2 hw6 => ?_
    refine q_appLamD T6 (ev_var rfl) hw6 (by show 2 < 100000; decide) fun f3 H7 eN7 T7 LL3 hw7 => ?_
    have nf : ∀ {b : Addr} {mk : Addr → LF}, LamS mk b H7 → b ≠ pw3 := fun {b mk} ⟨c, a, _⟩ z => by rw [z, hw7] at a; unfold LamO at a; cases a
    have LL1 := LL1.ext eN7
    have LL2 := LL2.ext eN7
    have upL : ∀ {o : HO} {b : Addr}, H7 b = some o → (∀ xs, o ≠ .lst xs) → (L2.upd H7 pw3 (.lst ([.ref f1, .ref f2] ++ [.ref f3]))) b = some o := fun {o b} q n => (upd_ne (fun z => by rw [z, hw7] at q; exact n _ (Option.some.inj q).symm)).trans q
    have nL : ∀ {f : Addr} {F : LF} xs, LamO f F ≠ .lst xs := fun {f F} xs z => by unfold LamO at z; cases z
    have nC : ∀ {c : Addr} {q : Str} xs, CodeO c q ≠ .lst xs := fun {c q} xs z => by unfold CodeO at z; cases z
    have LL1 : LamS _ f1 (L2.upd H7 pw3 (.lst ([.ref f1, .ref f2] ++ [.ref f3]))) := let ⟨c, a, b⟩ := LL1; ⟨c, upL a nL, upL b nC⟩
    have LQ2 : LamT _ 0 f2 (L2.upd H7 pw3 (.lst ([.ref f1, .ref f2] ++ [.ref f3]))) := let ⟨c, t, a, b, d⟩ := LL2; ⟨c, t, upL a nL, upL b nC, upL d fun _ z => nomatch z⟩
    have LL3 : LamT _ 0 f3 (L2.upd H7 pw3 (.lst ([.ref f1, .ref f2] ++ [.ref f3]))) := let ⟨c, t, a, b, d⟩ := LL3; ⟨c, t, upL a nL, upL b nC, upL d fun _ z => nomatch z⟩
    have T7' : TabsN [(Z.tb__law_refused, nmRef)] (L2.upd H7 pw3 (.lst ([.ref f1, .ref f2] ++ [.ref f3]))) := tabs_lst T7 hw7
    have hw8 : (L2.upd H7 pw3 (.lst ([.ref f1, .ref f2] ++ [.ref f3]))) pw3 = some (.lst ([f1, f2, f3].map V.ref)) := upd_same
    generalize L2.upd H7 pw3 (.lst ([.ref f1, .ref f2] ++ [.ref f3])) = H8 at LL1 LQ2 LL3 T7' hw8 ⊢
    clear LL2
    have LL2 := LQ2
    clear LQ2
    refine q_rows3 (eu_tup (ea_cons ev_c (ea_cons ev_c (ea_cons (ev_op ev_c ev_c rv_I0) ea_nil))) (by show 3 ≤ 100000; decide)) (eu_tup (ea_cons ev_c (ea_cons ev_c (ea_cons ev_c ea_nil))) (by show 3 ≤ 100000; decide)) (eu_tup (ea_cons ev_c (ea_cons ev_c (ea_cons (ev_op ev_c ev_c rv_I0) ea_nil))) (by show 3 ≤ 100000; decide)) fun pe x1 x2 x3 H9 e9 hpe hx1 hx2 hx3 => ?_
    have LL1 := LL1.ext (extN_of e9)
    have LL2 := LL2.ext (extN_of e9)
    have LL3 := LL3.ext (extN_of e9)
    have T9 := T7'.ext e9
    have hw9 := e9 _ _ hw8
    clear hw8 T7' hw7 T7 T6 hw6 nf upL
    refine q_outsNe (fs := [f1, f2, f3]) rowsB (ev_var rfl) (sq_of hw9) (fun _ => rfl) (fun _ => rfl) rfl (by show 3 ≤ 100; decide) plB
      (evd_ev (ev_var rfl) (d := .list (rowsB.map fun xs => .tuple (xs.map vD))) fun G eG => .lst (sq_of (eG _ _ hpe)) (dp_rows (ts := [x1, x2, x3]) rfl fun i t r ht hr => ⟨?_, plB r (List.mem_of_getElem? hr)⟩)) (by decide +kernel) (by decide +kernel) (by decide +kernel) (fun G eG Hz N fz i f xs hf hx => ?_) fun H10 e10 => ?_
    · rcases i with _ | _ | _ | i
      · cases ht; cases hr; exact st_of (eG _ _ hx1)
      · cases ht; cases hr; exact st_of (eG _ _ hx2)
      · cases ht; cases hr; exact st_of (eG _ _ hx3)
      · simp at ht
    · rcases i with _ | _ | _ | i
      any_goals (cases hf; cases hx)
      · obtain ⟨c1, a1, b1⟩ := LL1
        refine lam_cal (N := ["_law_rule_here"]) (ps := []) (fr := ["_law_rule_here"]) (k := 10) (S0 := G) (clo_frz (js := [0]) fz (eG _ _ a1) (eG _ _ b1) rfl (fun y hy e => ndef_free (sc := defScope s__law_refused) (fr := []) (by decide +kernel) y hy e) (ndef_fr (sc := defScope s__law_refused) (by decide +kernel)) rfl) (nscope_by (by dsimp only; decide +kernel)) backsX (fun _ _ us hl => match us, hl with | [], _ => rfl) (fun vs H Q E q => by rw [q.1]; rfl) fz.ex_
          (cl_none fz (fun y hy e => ndef_free (sc := defScope s__law_refused) (fr := []) (by decide +kernel) y hy e)) (fun A outer s H vs Q E hr eS x0 q => ?_)
        obtain ⟨rfl, rr⟩ := q
        refine ⟨_, pe_call (okM_outcome T hP) (hr.mono (by decide)) (by rfl) T.g_outcome T.F_outcome.kp T.b_outcome .nil (passes_call (takes_of rfl rfl rfl rfl) (fun _ _ _ _ h => h)) (pa_cons (pv 0) (pa_cons (pe_tup pa_nil) (pa_cons pe_int (pa_cons (pe_op op_sub pe_int pe_int) pa_nil)))), ?_⟩
        exact z_out (K := K) (Z := Z) (ds := []) (life := 3) (n := 0 - 1) (fun G => ev_var rfl) (eu_tup ea_nil (by show 0 ≤ 100000; decide)) (fun G => ev_c) (fun G => (ev_op ev_c ev_c rv_I0)) (by decide) fun G1 g1 => .inl ⟨Str.ofString "bakes", -1, by decide +kernel, fun d H3 e n x => rX_mix rr _ _ H3 (g1.trans e) (.inl ⟨d, _, _, rfl, rfl, x, rfl⟩)⟩
      · obtain ⟨c1, t1, a1, b1, i1⟩ := LL2
        refine lam_calD (N := ["_law_a", "_law_rule_here"]) (p := "_law_a") (fr := ["_law_rule_here"]) (k := 10) (S0 := G) (clo_frz (js := [0]) fz (eG _ _ a1) (eG _ _ b1) rfl (fun y hy e => ndef_free (sc := defScope s__law_refused) (fr := []) (by decide +kernel) y hy e) (ndef_fr (sc := defScope s__law_refused) (by decide +kernel)) rfl) (fz.ex_ _ _ (eG _ _ i1)) (nscope_by (by dsimp only; decide +kernel)) backsX (fun _ _ u s o n ho hs => BindsTo.of_defaults (T := t1) rfl ho hs rfl rfl) (fun vs H Q E q => q.1) fz.ex_
          (cl_none fz (fun y hy e => ndef_free (sc := defScope s__law_refused) (fr := []) (by decide +kernel) y hy e)) (fun A outer s H Q E hr eS x0 q => ?_)
        obtain ⟨_, rr⟩ := q
        refine ⟨_, pe_call (okM_outcome T hP) (hr.mono (by decide)) (by rfl) T.g_outcome T.F_outcome.kp T.b_outcome .nil (passes_call (takes_of rfl rfl rfl rfl) (fun _ _ _ _ h => h)) (pa_cons (pv 1) (pa_cons (pe_tup (pa_cons pe_int (pa_cons (pe_op op_sub pe_int pe_int) pa_nil))) (pa_cons pe_int (pa_cons pe_int pa_nil)))), ?_⟩
        exact z_out (K := K) (Z := Z) (ds := [1, 0 - 1]) (life := 3) (n := 5) (fun G => ev_var rfl) (eu_tup (ea_cons ev_c (ea_cons (ev_op ev_c ev_c rv_I0) ea_nil)) (by show 2 ≤ 100000; decide)) (fun G => ev_c) (fun G => ev_c) (by decide) fun G1 g1 => .inl ⟨Str.ofString "demands", 1, by decide +kernel, fun d H3 e n x => rX_mix rr _ _ H3 (g1.trans e) (.inl ⟨d, _, _, rfl, rfl, x, rfl⟩)⟩
      · obtain ⟨c1, t1, a1, b1, i1⟩ := LL3
        refine lam_calD (N := ["_law_b", "_law_rule_here"]) (p := "_law_b") (fr := ["_law_rule_here"]) (k := 10) (S0 := G) (clo_frz (js := [0]) fz (eG _ _ a1) (eG _ _ b1) rfl (fun y hy e => ndef_free (sc := defScope s__law_refused) (fr := []) (by decide +kernel) y hy e) (ndef_fr (sc := defScope s__law_refused) (by decide +kernel)) rfl) (fz.ex_ _ _ (eG _ _ i1)) (nscope_by (by dsimp only; decide +kernel)) backsX (fun _ _ u s o n ho hs => BindsTo.of_defaults (T := t1) rfl ho hs rfl rfl) (fun vs H Q E q => q.1) fz.ex_
          (cl_none fz (fun y hy e => ndef_free (sc := defScope s__law_refused) (fr := []) (by decide +kernel) y hy e)) (fun A outer s H Q E hr eS x0 q => ?_)
        obtain ⟨_, rr⟩ := q
        refine ⟨_, pe_call (okM_outcome T hP) (hr.mono (by decide)) (by rfl) T.g_outcome T.F_outcome.kp T.b_outcome .nil (passes_call (takes_of rfl rfl rfl rfl) (fun _ _ _ _ h => h)) (pa_cons (pv 1) (pa_cons (pe_tup (pa_cons pe_int pa_nil)) (pa_cons pe_int (pa_cons pe_int pa_nil)))), ?_⟩
        exact z_out (K := K) (Z := Z) (ds := [1]) (life := 31) (n := 5) (fun G => ev_var rfl) (eu_tup (ea_cons ev_c ea_nil) (by show 1 ≤ 100000; decide)) (fun G => ev_c) (fun G => ev_c) (by decide) fun G1 g1 => .inl ⟨Str.ofString "life", -1, by decide +kernel, fun d H3 e n x => rX_mix rr _ _ H3 (g1.trans e) (.inl ⟨d, _, _, rfl, rfl, x, rfl⟩)⟩
      · simp at hf
    have T10 := T9.ext e10
    clear LL1 LL2 LL3 hw9 hpe hx1 hx2 hx3 T9
    refine q_works T10 fun f1 f2 pw4 H11 eN11 T11 LL1 LL2 hw11 => ?_
    have hw11 : H11 pw4 = some (.lst ([f1, f2].map V.ref)) := hw11
    refine s_outsEq (fs := [f1, f2]) rowsN (ev_var rfl) (sq_of hw11) (fun _ => rfl) (fun _ => rfl) rfl (by show 2 ≤ 100; decide) plN
      (evd_twice (row := [.str "InvalidNumber"]) (eu_tup (ea_cons ev_c ea_nil) (by show 1 ≤ 100000; decide)) ev_c (by simp [plainV])) (by decide +kernel) (by decide +kernel) (by decide +kernel) (fun G eG Hz N fz i f xs hf hx => ?_) fun H12 e12 => k H12
    rcases i with _ | _ | i
    any_goals (cases hf; cases hx)
    · obtain ⟨c1, a1, b1⟩ := LL1
      refine lam_cal (N := ["_law_rule_here"]) (ps := []) (fr := ["_law_rule_here"]) (k := 10) (S0 := G) (clo_frz (js := [0]) fz (eG _ _ a1) (eG _ _ b1) rfl (fun y hy e => ndef_free (sc := defScope s__law_refused) (fr := []) (by decide +kernel) y hy e) (ndef_fr (sc := defScope s__law_refused) (by decide +kernel)) rfl) (nscope_by (by dsimp only; decide +kernel)) backsX (fun _ _ us hl => match us, hl with | [], _ => rfl) (fun vs H Q E q => by rw [q.1]; rfl) fz.ex_
        (cl_none fz (fun y hy e => ndef_free (sc := defScope s__law_refused) (fr := []) (by decide +kernel) y hy e)) (fun A outer s H vs Q E hr eS x0 q => ?_)
      obtain ⟨rfl, rr⟩ := q
      refine ⟨_, pe_call (okM_outcome T hP) (hr.mono (by decide)) (by rfl) T.g_outcome T.F_outcome.kp T.b_outcome .nil (passes_call (takes_of rfl rfl rfl rfl) (fun _ _ _ _ h => h)) (pa_cons (pv 0) (pa_cons (pe_tup (pa_cons pe_int pa_nil)) (pa_cons pe_int (pa_cons (pe_op op_sub pe_int pe_int) pa_nil)))), ?_⟩
      exact z_out (K := K) (Z := Z) (ds := [1]) (life := 3) (n := 0 - 1) (fun G => ev_var rfl) (eu_tup (ea_cons ev_c ea_nil) (by show 1 ≤ 100000; decide)) (fun G => ev_c) (fun G => (ev_op ev_c ev_c rv_I0)) (by decide) fun G1 g1 => .inr ⟨by decide +kernel, by decide, by decide, fun H3 e => rX_mix rr _ _ H3 (g1.trans e) (.inr (.inl ⟨rfl, rfl, rfl⟩))⟩
    · obtain ⟨c1, t1, a1, b1, i1⟩ := LL2
      refine lam_calD (N := ["_law_a", "_law_rule_here"]) (p := "_law_a") (fr := ["_law_rule_here"]) (k := 10) (S0 := G) (clo_frz (js := [0]) fz (eG _ _ a1) (eG _ _ b1) rfl (fun y hy e => ndef_free (sc := defScope s__law_refused) (fr := []) (by decide +kernel) y hy e) (ndef_fr (sc := defScope s__law_refused) (by decide +kernel)) rfl) (fz.ex_ _ _ (eG _ _ i1)) (nscope_by (by dsimp only; decide +kernel)) backsX (fun _ _ u s o n ho hs => BindsTo.of_defaults (T := t1) rfl ho hs rfl rfl) (fun vs H Q E q => q.1) fz.ex_
        (cl_none fz (fun y hy e => ndef_free (sc := defScope s__law_refused) (fr := []) (by decide +kernel) y hy e)) (fun A outer s H Q E hr eS x0 q => ?_)
      obtain ⟨_, rr⟩ := q
      refine ⟨_, pe_listGz (pgz_call (okZ_run T hP) (hr.mono (by decide)) (by rfl) T.g_run T.F_run.kp T.b_run (pa_cons (pv 1) (pa_cons (pe_tup (pa_cons pe_int pa_nil)) (pa_cons pe_int (pa_cons pe_int pa_nil))))) (passes_call (takes_of rfl rfl rfl rfl) (fun _ _ _ _ h => h)) (hr.mono (by decide)) (by rfl) T.b_list boot_list, ?_⟩
      exact z_list T (K := K) (Z := Z) (ds := [1]) (life := 3) (n := 10001) (fun G => ev_var rfl) (eu_tup (ea_cons ev_c ea_nil) (by show 1 ≤ 100000; decide)) (fun G => ev_c) (fun G => ev_c) (by decide) fun G1 g1 => .inr ⟨by decide +kernel, by decide, by decide, fun H3 e => rX_mix rr _ _ H3 (g1.trans e) (.inr (.inl ⟨rfl, rfl, rfl⟩))⟩
    · simp at hf
end Sw
namespace Sw
open PySem PySem.Spec PyProof.Rows L2 Evl
local macro_rules | `(tactic| walk_at "ev") => `(tactic| first
  | exact ev_c
  | exact ev_var rfl
  | ((with_reducible show Ev (tCB rMax2 _) _ _ _); exact ev_maxi (by walk_at "ev") (by walk_at "ev"))
  | ((with_reducible show Ev (tCB rMn _) _ _ _); exact ev_min2 (by walk_at "ev") (by walk_at "ev"))
  | ((with_reducible show Ev (tUn _ _) _ _ _); exact ev_un (by walk_at "ev") ru_neg)
  | ((with_reducible show Ev (tFld _ _ _) _ _ _); exact ev_fldK (by walk_at "ev") (by assumption))
  | ((with_reducible show Ev (tOp (rI0 _) _ _) _ _ _); exact ev_op (by walk_at "ev") (by walk_at "ev") rv_I0)
  | ((with_reducible show Ev (tOp rEq _ _) _ _ _); exact ev_op (by walk_at "ev") (by walk_at "ev") (rv_eq rfl))
  | ((with_reducible show Ev (tOp rNe _ _) _ _ _); exact ev_op (by walk_at "ev") (by walk_at "ev") (rv_ne rfl)))

/-! ### isinstance, and two values that are alike -/
def Tyn (K : PySem.W.Frag) (H : Hp) (x : V) (n : String) : Prop := (∃ i, x = .int i ∧ n = "int") ∨ (x = .non ∧ n = "NoneType") ∨ (∃ a xs, x = .ref a ∧ SqT K H a xs ∧ n = "tuple") ∨ (∃ a xs, x = .ref a ∧ SqL K H a xs ∧ n = "list")
section
variable {K : PySem.W.Frag} {σ : L2.St} {H H' : Hp} {ta tb te tx : TE} {x y z v : V} {a b : Addr} {xs ys : List V} {n m : String} {r : Bool}
theorem Tyn.mono (e : Ex H H') (h : Tyn K H x n) : Tyn K H' x n := by
  rcases h with h | h | ⟨a, xs, h1, h2, h3⟩ | ⟨a, xs, h1, h2, h3⟩
  · exact .inl h
  · exact .inr (.inl h)
  · exact .inr (.inr (.inl ⟨a, xs, h1, ex_t e h2, h3⟩))
  · exact .inr (.inr (.inr ⟨a, xs, h1, ex_l e h2, h3⟩))
theorem Tyn.ty (h : Tyn K H x n) : TyX K H x (.type n) := by
  rcases h with ⟨i, rfl, rfl⟩ | ⟨rfl, rfl⟩ | ⟨a, xs, rfl, h2, rfl⟩ | ⟨a, xs, rfl, h2, rfl⟩
  · exact .base (.int i)
  · exact .base .non
  · rcases h2 with (h | ⟨o, h⟩) | ⟨o, its, k, h1, h2, _⟩
    · exact .base (.tup h)
    · exact .fTuple h
    · exact .kTuple h1 h2
  · rcases h2 with (h | ⟨o, h⟩) | ⟨o, its, k, h1, h2, _⟩
    · exact .base (.lst h)
    · exact .base (.frz h)
    · exact .kList h1 h2
theorem ev_isi (h : Ev ta σ H x) (ty : Tyn K H x n) (e : kitB n m = some r) : Ev (tCB (rIsi K) (tCons ta (tCons (tC (.ty m)) tNil))) σ H (.bl r) := fun H1 e1 Q q =>
  h H1 e1 _ fun H2 e2 => ⟨x, .ty m, .type n, .type m, r, rfl, .ty m, (ty.mono (e1.trans e2)).ty, kit_ty e, q H2 e2⟩
theorem ev_isiT {r1 r2 : Bool} (h : Ev ta σ H x) (ty : Tyn K H x n) (e : kitB n "tuple" = some r1) (e' : kitB n "list" = some r2) : Ev (tCB (rIsiT K) (tCons ta (tCons (tTup (tCons (tC (.ty "tuple")) (tCons (tC (.ty "list")) tNil))) tNil))) σ H (.bl (r1 || r2)) := fun H1 e1 Q q =>
  h H1 e1 _ fun H2 e2 => ⟨by show 2 ≤ sizeLine; decide, fun p hp => ⟨x, p, [.ty "tuple", .ty "list"], .type n, [.type "tuple", .type "list"], r1 || r2, rfl, upd_same, .cons (.ty _) (.cons (.ty _) .nil), (ty.mono ((e1.trans e2).trans (Ex.new hp))).ty, by
    refine kitAny_cons (kit_ty e) (fun h1 => ?_) (fun h1 => by rw [h1]; rfl)
    refine kitAny_cons (kit_ty e') (fun h2 => ?_) (fun h2 => by rw [h1, h2]; rfl)
    rw [h1, h2]; exact kitAny_nil, q _ (e2.trans (Ex.new hp))⟩⟩
end
def AlS (x y : V) : Prop := (∃ i, x = .int i ∧ y = .int i) ∨ (x = .non ∧ y = .non)
/-- x and y stand for equal data, at most n deep -/
def Alk (K : PySem.W.Frag) (H : Hp) : Nat → V → V → Prop
  | 0, x, y => AlS x y
  | n + 1, x, y => AlS x y ∨ ∃ a b xs ys, x = .ref a ∧ y = .ref b ∧ (SqT K H a xs ∧ SqT K H b ys ∨ SqL K H a xs ∧ SqL K H b ys) ∧ xs.length = ys.length ∧ xs.length ≤ 1000 ∧ ∀ (i : Nat) u v, xs[i]? = some u → ys[i]? = some v → Alk K H n u v
theorem Alk.mono {K : PySem.W.Frag} {H H' : Hp} (e : Ex H H') : ∀ n x y, Alk K H n x y → Alk K H' n x y
  | 0, _, _, h => h
  | n + 1, x, y, h => by
    rcases h with h | ⟨a, b, xs, ys, h1, h2, h3, h4, h5, h6⟩
    · exact .inl h
    · refine .inr ⟨a, b, xs, ys, h1, h2, ?_, h4, h5, fun i u v q1 q2 => Alk.mono e n u v (h6 i u v q1 q2)⟩
      rcases h3 with h3 | h3
      · exact .inl ⟨ex_t e h3.1, ex_t e h3.2⟩
      · exact .inr ⟨ex_l e h3.1, ex_l e h3.2⟩
def sp_same (K : PySem.W.Frag) (n : Nat) : Sp := fun vs H Q _ => ∃ x y, vs = [x, y] ∧ Alk K H n x y ∧ RetV (.bl true) H Q
theorem spv_same {K : PySem.W.Frag} {n : Nat} {H : Hp} {x y : V} (h : Alk K H n x y) : SpV (sp_same K n) [x, y] H (.bl true) := fun _ e _ q _ => ⟨x, y, rfl, h.mono e, q⟩
variable {P : Program} {w : World} {K : PySem.W.Frag} {mg : Str → Option Value} {base : Heap} {Z : Ad}
theorem ok__law_same (T : Txt K mg Z) (n : Nat) : FnOk P w K mg base CX0 (n + 1) Z.f__law_same Z.d__law_same p__law_same (sp_same K n) := by
  induction n with
  | zero =>
    refine T.F__law_same.ok sc__law_same (fun vs H Q E h => ?_) (fun cdv Ar outer s H vs Q E hr h => ?_)
    · obtain ⟨x, y, rfl, _⟩ := h
      rfl
    · obtain ⟨x, y, rfl, hA, k⟩ := h
      have hA : AlS x y := hA
      refine ⟨_, (pss_cons (ps_if (pt_val (pe_callB (r := rIsiT K) (call_isiT) (by rfl) T.b_isinstance boot_isinstance (pa_cons (pv 1) (pa_cons (pe_tup (pa_cons (pe_bltn (v := .ty "tuple") (by rfl) T.b_tuple boot_tuple rfl) (pa_cons (pe_bltn (v := .ty "list") (by rfl) T.b_list boot_list rfl) pa_nil))) pa_nil)))) (pss_cons ps_no
      (pss_cons ps_no
      (pss_one ps_no))) pss_nil)
      (pss_cons (ps_if (pt_cmpR op_ne (pe_callB (r := rIsi K) (call_isi) (by rfl) T.b_isinstance boot_isinstance (pa_cons (pv 0) (pa_cons (pe_bltn (v := .ty "bool") (by rfl) T.b_bool boot_bool rfl) pa_nil))) (pe_callB (r := rIsi K) (call_isi) (by rfl) T.b_isinstance boot_isinstance (pa_cons (pv 1) (pa_cons (pe_bltn (v := .ty "bool") (by rfl) T.b_bool boot_bool rfl) pa_nil))) (nomark _)) (pss_one (ps_ret pe_bl)) pss_nil)
      (pss_one (ps_ret (pe_and (pe_cmpR op_eq (pe_callB (r := rIsi K) (call_isi) (by rfl) T.b_isinstance boot_isinstance (pa_cons (pv 0) (pa_cons (pe_bltn (v := .ty "int") (by rfl) T.b_int boot_int rfl) pa_nil))) (pe_callB (r := rIsi K) (call_isi) (by rfl) T.b_isinstance boot_isinstance (pa_cons (pv 1) (pa_cons (pe_bltn (v := .ty "int") (by rfl) T.b_int boot_int rfl) pa_nil))) (nomark _)) (pe_one (pe_cmpR op_eq (pv 0) (pv 1) (nomark _)))))))), ?_⟩
      rcases hA with ⟨i, rfl, rfl⟩ | ⟨rfl, rfl⟩
      · have ty : ∀ {G : Hp}, Tyn K G (.int i) "int" := .inl ⟨i, rfl, rfl⟩
        refine q_when (b := false) (et_B (ev_isiT (n := "int") (r1 := false) (r2 := false) (ev_var rfl) ty (by decide +kernel) (by decide +kernel))) (fun hb => nomatch hb) fun _ H1 e1 => ?_
        refine q_when (b := false) (et_test (ev_is (ev_op (ev_isi (n := "int") (m := "bool") (r := false) (ev_var rfl) ty (by decide +kernel)) (ev_isi (n := "int") (m := "bool") (r := false) (ev_var rfl) ty (by decide +kernel)) (rv_ne rfl)) (by simp))) (fun hb => nomatch hb) fun _ H2 e2 => ?_
        exact s_ret (v := .bl true) (ev_andV (a := true) (b := true) (ev_is (ev_op (ev_isi (n := "int") (m := "int") (r := true) (ev_var rfl) ty (by decide +kernel)) (ev_isi (n := "int") (m := "int") (r := true) (ev_var rfl) ty (by decide +kernel)) (rv_eq rfl)) (by simp)) fun _ => ev_is (ev_op (ev_var rfl) (ev_var rfl) (rv_eq rfl)) (by simp)) fun H3 e3 => k H3 ((e1.trans e2).trans e3)
      · have ty : ∀ {G : Hp}, Tyn K G .non "NoneType" := .inr (.inl ⟨rfl, rfl⟩)
        refine q_when (b := false) (et_B (ev_isiT (n := "NoneType") (r1 := false) (r2 := false) (ev_var rfl) ty (by decide +kernel) (by decide +kernel))) (fun hb => nomatch hb) fun _ H1 e1 => ?_
        refine q_when (b := false) (et_test (ev_is (ev_op (ev_isi (n := "NoneType") (m := "bool") (r := false) (ev_var rfl) ty (by decide +kernel)) (ev_isi (n := "NoneType") (m := "bool") (r := false) (ev_var rfl) ty (by decide +kernel)) (rv_ne rfl)) (by simp))) (fun hb => nomatch hb) fun _ H2 e2 => ?_
        exact s_ret (v := .bl true) (ev_andV (a := true) (b := true) (ev_is (ev_op (ev_isi (n := "NoneType") (m := "int") (r := false) (ev_var rfl) ty (by decide +kernel)) (ev_isi (n := "NoneType") (m := "int") (r := false) (ev_var rfl) ty (by decide +kernel)) (rv_eq rfl)) (by simp)) fun _ => ev_is (ev_op (ev_var rfl) (ev_var rfl) (rv_eq rfl)) (by simp)) fun H3 e3 => k H3 ((e1.trans e2).trans e3)
  | succ n ih =>
    refine T.F__law_same.ok sc__law_same (fun vs H Q E h => ?_) (fun cdv Ar outer s H vs Q E hr h => ?_)
    · obtain ⟨x, y, rfl, _⟩ := h
      rfl
    · obtain ⟨x, y, rfl, hA, k⟩ := h
      rcases hA with hA | ⟨a, b, xs, ys, rfl, rfl, hS, hl, hz, hA⟩
      · refine ⟨_, (pss_cons (ps_if (pt_val (pe_callB (r := rIsiT K) (call_isiT) (by rfl) T.b_isinstance boot_isinstance (pa_cons (pv 1) (pa_cons (pe_tup (pa_cons (pe_bltn (v := .ty "tuple") (by rfl) T.b_tuple boot_tuple rfl) (pa_cons (pe_bltn (v := .ty "list") (by rfl) T.b_list boot_list rfl) pa_nil))) pa_nil)))) (pss_cons ps_no
      (pss_cons ps_no
      (pss_one ps_no))) pss_nil)
      (pss_cons (ps_if (pt_cmpR op_ne (pe_callB (r := rIsi K) (call_isi) (by rfl) T.b_isinstance boot_isinstance (pa_cons (pv 0) (pa_cons (pe_bltn (v := .ty "bool") (by rfl) T.b_bool boot_bool rfl) pa_nil))) (pe_callB (r := rIsi K) (call_isi) (by rfl) T.b_isinstance boot_isinstance (pa_cons (pv 1) (pa_cons (pe_bltn (v := .ty "bool") (by rfl) T.b_bool boot_bool rfl) pa_nil))) (nomark _)) (pss_one (ps_ret pe_bl)) pss_nil)
      (pss_one (ps_ret (pe_and (pe_cmpR op_eq (pe_callB (r := rIsi K) (call_isi) (by rfl) T.b_isinstance boot_isinstance (pa_cons (pv 0) (pa_cons (pe_bltn (v := .ty "int") (by rfl) T.b_int boot_int rfl) pa_nil))) (pe_callB (r := rIsi K) (call_isi) (by rfl) T.b_isinstance boot_isinstance (pa_cons (pv 1) (pa_cons (pe_bltn (v := .ty "int") (by rfl) T.b_int boot_int rfl) pa_nil))) (nomark _)) (pe_one (pe_cmpR op_eq (pv 0) (pv 1) (nomark _)))))))), ?_⟩
        rcases hA with ⟨i, rfl, rfl⟩ | ⟨rfl, rfl⟩
        · have ty : ∀ {G : Hp}, Tyn K G (.int i) "int" := .inl ⟨i, rfl, rfl⟩
          refine q_when (b := false) (et_B (ev_isiT (n := "int") (r1 := false) (r2 := false) (ev_var rfl) ty (by decide +kernel) (by decide +kernel))) (fun hb => nomatch hb) fun _ H1 e1 => ?_
          refine q_when (b := false) (et_test (ev_is (ev_op (ev_isi (n := "int") (m := "bool") (r := false) (ev_var rfl) ty (by decide +kernel)) (ev_isi (n := "int") (m := "bool") (r := false) (ev_var rfl) ty (by decide +kernel)) (rv_ne rfl)) (by simp))) (fun hb => nomatch hb) fun _ H2 e2 => ?_
          exact s_ret (v := .bl true) (ev_andV (a := true) (b := true) (ev_is (ev_op (ev_isi (n := "int") (m := "int") (r := true) (ev_var rfl) ty (by decide +kernel)) (ev_isi (n := "int") (m := "int") (r := true) (ev_var rfl) ty (by decide +kernel)) (rv_eq rfl)) (by simp)) fun _ => ev_is (ev_op (ev_var rfl) (ev_var rfl) (rv_eq rfl)) (by simp)) fun H3 e3 => k H3 ((e1.trans e2).trans e3)
        · have ty : ∀ {G : Hp}, Tyn K G .non "NoneType" := .inr (.inl ⟨rfl, rfl⟩)
          refine q_when (b := false) (et_B (ev_isiT (n := "NoneType") (r1 := false) (r2 := false) (ev_var rfl) ty (by decide +kernel) (by decide +kernel))) (fun hb => nomatch hb) fun _ H1 e1 => ?_
          refine q_when (b := false) (et_test (ev_is (ev_op (ev_isi (n := "NoneType") (m := "bool") (r := false) (ev_var rfl) ty (by decide +kernel)) (ev_isi (n := "NoneType") (m := "bool") (r := false) (ev_var rfl) ty (by decide +kernel)) (rv_ne rfl)) (by simp))) (fun hb => nomatch hb) fun _ H2 e2 => ?_
          exact s_ret (v := .bl true) (ev_andV (a := true) (b := true) (ev_is (ev_op (ev_isi (n := "NoneType") (m := "int") (r := false) (ev_var rfl) ty (by decide +kernel)) (ev_isi (n := "NoneType") (m := "int") (r := false) (ev_var rfl) ty (by decide +kernel)) (rv_eq rfl)) (by simp)) fun _ => ev_is (ev_op (ev_var rfl) (ev_var rfl) (rv_eq rfl)) (by simp)) fun H3 e3 => k H3 ((e1.trans e2).trans e3)
      · have hln : ((ys.length : Nat) : Int) = (xs.length : Int) := by omega
        rcases hS with ⟨ha, hb⟩ | ⟨ha, hb⟩
        · have tx : Tyn K H (.ref a) "tuple" := .inr (.inr (.inl ⟨a, xs, rfl, ha, rfl⟩))
          have ty : Tyn K H (.ref b) "tuple" := .inr (.inr (.inl ⟨b, ys, rfl, hb, rfl⟩))
          refine ⟨_, (pss_cons (ps_if (pt_val (pe_callB (r := rIsiT K) (call_isiT) (by rfl) T.b_isinstance boot_isinstance (pa_cons (pv 1) (pa_cons (pe_tup (pa_cons (pe_bltn (v := .ty "tuple") (by rfl) T.b_tuple boot_tuple rfl) (pa_cons (pe_bltn (v := .ty "list") (by rfl) T.b_list boot_list rfl) pa_nil))) pa_nil)))) (pss_cons (ps_if (PW.pt (pw_or (pt_not (pt_val (pe_callB (r := rIsiT K) (call_isiT) (by rfl) T.b_isinstance boot_isinstance (pa_cons (pv 0) (pa_cons (pe_tup (pa_cons (pe_bltn (v := .ty "tuple") (by rfl) T.b_tuple boot_tuple rfl) (pa_cons (pe_bltn (v := .ty "list") (by rfl) T.b_list boot_list rfl) pa_nil))) pa_nil))))) (pw_or1 (pt_cmpR op_ne (pe_callB (r := rIsi K) (call_isi) (by rfl) T.b_isinstance boot_isinstance (pa_cons (pv 0) (pa_cons (pe_bltn (v := .ty "list") (by rfl) T.b_list boot_list rfl) pa_nil))) (pe_callB (r := rIsi K) (call_isi) (by rfl) T.b_isinstance boot_isinstance (pa_cons (pv 1) (pa_cons (pe_bltn (v := .ty "list") (by rfl) T.b_list boot_list rfl) pa_nil))) (nomark _))))) (pss_one (ps_ret pe_bl)) pss_nil)
      (pss_cons (ps_if (pt_cmpR op_ne (pe_callB (r := rLenS K) (call_len_seq) (by rfl) T.b_len boot_len (pa_cons (pv 0) pa_nil)) (pe_callB (r := rLenS K) (call_len_seq) (by rfl) T.b_len boot_len (pa_cons (pv 1) pa_nil)) (nomark _)) (pss_one (ps_ret pe_bl)) pss_nil)
      (pss_one (ps_ret (pe_cmpR (op_eqD hr.units) (pe_lc (own := [("_law_k", 2)]) rfl sc__law_same.nd (pi_range1 (by rfl) T.b_range (pa_cons (pe_callB (r := rLenS K) (call_len_seq) (by rfl) T.b_len boot_len (pa_cons (pv 1) pa_nil)) pa_nil)) (blkOk_by (own := [("_law_k", 2)]) (N := n__law_same) (sc := defScope s__law_same) (scope := { kind := PySem.ScopeKind.function, names := [ (PySem.Str.ofString ".0", PySem.NameKind.local), (PySem.Str.ofString "_law_k", PySem.NameKind.local), (PySem.Str.ofString "_law_same", PySem.NameKind.globalImplicit), (PySem.Str.ofString "_law_expected", PySem.NameKind.free), (PySem.Str.ofString "_law_result", PySem.NameKind.free)], isGenerator := false, isCoroutine := false, more := [] : PySem.Scope }) (by decide +kernel)) (fun _ _ _ _ _ => (pg_name (i := 2) sc__law_same.nd rfl (Or.inl rfl))) (fun _ _ _ _ _ => (pts_one (pt_not (pt_val (pe_call ih hr (by rfl) T.g__law_same T.F__law_same.kp T.b__law_same .nil pass0 (pa_cons (pe_ix (r := rIxT K) ix_tup (pv 0) (pv 2) (fun _ _ => rfl)) (pa_cons (pe_ix (r := rIxT K) ix_tup (pv 1) (pv 2) (fun _ _ => rfl)) pa_nil))))))) (fun _ _ _ _ _ => (pv 2))) (pe_lst pa_nil) (nomark _)))))) pss_nil)
      (pss_cons ps_no
      (pss_one ps_no))), ?_⟩
          refine q_when (b := true) (et_B (ev_isiT (n := "tuple") (r1 := true) (r2 := false) (ev_var rfl) ty (by decide +kernel) (by decide +kernel))) (fun _ H2 e2 => ?_) (fun hb => nomatch hb)
          refine q_when (b := false) (et_or (a := false) (b := false) (et_not (a := true) (et_B (ev_isiT (n := "tuple") (r1 := true) (r2 := false) (ev_var rfl) (tx.mono e2) (by decide +kernel) (by decide +kernel)))) fun _ => et_test (ev_is (ev_op (ev_isi (n := "tuple") (m := "list") (r := false) (ev_var rfl) (tx.mono e2) (by decide +kernel)) (ev_isi (n := "tuple") (m := "list") (r := false) (ev_var rfl) (ty.mono e2) (by decide +kernel)) (rv_ne rfl)) (by simp))) (fun hb => nomatch hb) fun _ H3 e3 => ?_
          have e13 := e2.trans e3
          refine q_when (b := false) (et_test (ev_is (ev_op (ev_lenT (ev_var rfl) (ex_t e13 ha)) (Ev.int_eq (ev_lenT (ev_var rfl) (ex_t e13 hb)) hln) (rv_ne rfl)) (by simp))) (fun hb => nomatch hb) fun _ H4 e4 => ?_
          have e14 := e13.trans e4
          refine s_ret (v := .bl true) (ev_eqNil (xs := given (ys.length : Int).toNat (fun _ => false) (fun i => .int (i : Int))) (el_lcR1 (n := (ys.length : Int)) (fun _ => false) _ (ea_cons (ev_lenT (ev_var rfl) (ex_t e14 hb)) ea_nil) ⟨by omega, by omega⟩ (fun _ => rfl) (fun i G e5 hi => ?_) (fun _ _ _ _ hf => nomatch hf)) (el_lst ea_nil (by show 0 ≤ 100000; decide)) (given_none fun _ _ => rfl)) fun H5 e5 => k H5 (e14.trans e5)
          have hx : (i : Nat) < xs.length := by omega
          have hy : (i : Nat) < ys.length := by omega
          refine et_not (a := true) (et_B (ev_call (vs := [xs[i], ys[i]]) (ea_cons (ev_ixT (ev_var rfl) (ex_t (e14.trans e5) ha) (ev_var rfl) (atI_nat (by simp))) (ea_cons (ev_ixT (ev_var rfl) (ex_t (e14.trans e5) hb) (ev_var rfl) (atI_nat (by simp))) ea_nil)) (spv_same ?_)))
          exact (hA i _ _ (by simp) (by simp)).mono (e14.trans e5)
        · have tx : Tyn K H (.ref a) "list" := .inr (.inr (.inr ⟨a, xs, rfl, ha, rfl⟩))
          have ty : Tyn K H (.ref b) "list" := .inr (.inr (.inr ⟨b, ys, rfl, hb, rfl⟩))
          refine ⟨_, (pss_cons (ps_if (pt_val (pe_callB (r := rIsiT K) (call_isiT) (by rfl) T.b_isinstance boot_isinstance (pa_cons (pv 1) (pa_cons (pe_tup (pa_cons (pe_bltn (v := .ty "tuple") (by rfl) T.b_tuple boot_tuple rfl) (pa_cons (pe_bltn (v := .ty "list") (by rfl) T.b_list boot_list rfl) pa_nil))) pa_nil)))) (pss_cons (ps_if (PW.pt (pw_or (pt_not (pt_val (pe_callB (r := rIsiT K) (call_isiT) (by rfl) T.b_isinstance boot_isinstance (pa_cons (pv 0) (pa_cons (pe_tup (pa_cons (pe_bltn (v := .ty "tuple") (by rfl) T.b_tuple boot_tuple rfl) (pa_cons (pe_bltn (v := .ty "list") (by rfl) T.b_list boot_list rfl) pa_nil))) pa_nil))))) (pw_or1 (pt_cmpR op_ne (pe_callB (r := rIsi K) (call_isi) (by rfl) T.b_isinstance boot_isinstance (pa_cons (pv 0) (pa_cons (pe_bltn (v := .ty "list") (by rfl) T.b_list boot_list rfl) pa_nil))) (pe_callB (r := rIsi K) (call_isi) (by rfl) T.b_isinstance boot_isinstance (pa_cons (pv 1) (pa_cons (pe_bltn (v := .ty "list") (by rfl) T.b_list boot_list rfl) pa_nil))) (nomark _))))) (pss_one (ps_ret pe_bl)) pss_nil)
      (pss_cons (ps_if (pt_cmpR op_ne (pe_callB (r := rLenS K) (call_len_seq) (by rfl) T.b_len boot_len (pa_cons (pv 0) pa_nil)) (pe_callB (r := rLenS K) (call_len_seq) (by rfl) T.b_len boot_len (pa_cons (pv 1) pa_nil)) (nomark _)) (pss_one (ps_ret pe_bl)) pss_nil)
      (pss_one (ps_ret (pe_cmpR (op_eqD hr.units) (pe_lc (own := [("_law_k", 2)]) rfl sc__law_same.nd (pi_range1 (by rfl) T.b_range (pa_cons (pe_callB (r := rLenS K) (call_len_seq) (by rfl) T.b_len boot_len (pa_cons (pv 1) pa_nil)) pa_nil)) (blkOk_by (own := [("_law_k", 2)]) (N := n__law_same) (sc := defScope s__law_same) (scope := { kind := PySem.ScopeKind.function, names := [ (PySem.Str.ofString ".0", PySem.NameKind.local), (PySem.Str.ofString "_law_k", PySem.NameKind.local), (PySem.Str.ofString "_law_same", PySem.NameKind.globalImplicit), (PySem.Str.ofString "_law_expected", PySem.NameKind.free), (PySem.Str.ofString "_law_result", PySem.NameKind.free)], isGenerator := false, isCoroutine := false, more := [] : PySem.Scope }) (by decide +kernel)) (fun _ _ _ _ _ => (pg_name (i := 2) sc__law_same.nd rfl (Or.inl rfl))) (fun _ _ _ _ _ => (pts_one (pt_not (pt_val (pe_call ih hr (by rfl) T.g__law_same T.F__law_same.kp T.b__law_same .nil pass0 (pa_cons (pe_ix (r := rIxL K) ix_list (pv 0) (pv 2) (fun _ _ => rfl)) (pa_cons (pe_ix (r := rIxL K) ix_list (pv 1) (pv 2) (fun _ _ => rfl)) pa_nil))))))) (fun _ _ _ _ _ => (pv 2))) (pe_lst pa_nil) (nomark _)))))) pss_nil)
      (pss_cons ps_no
      (pss_one ps_no))), ?_⟩
          refine q_when (b := true) (et_B (ev_isiT (n := "list") (r1 := false) (r2 := true) (ev_var rfl) ty (by decide +kernel) (by decide +kernel))) (fun _ H2 e2 => ?_) (fun hb => nomatch hb)
          refine q_when (b := false) (et_or (a := false) (b := false) (et_not (a := true) (et_B (ev_isiT (n := "list") (r1 := false) (r2 := true) (ev_var rfl) (tx.mono e2) (by decide +kernel) (by decide +kernel)))) fun _ => et_test (ev_is (ev_op (ev_isi (n := "list") (m := "list") (r := true) (ev_var rfl) (tx.mono e2) (by decide +kernel)) (ev_isi (n := "list") (m := "list") (r := true) (ev_var rfl) (ty.mono e2) (by decide +kernel)) (rv_ne rfl)) (by simp))) (fun hb => nomatch hb) fun _ H3 e3 => ?_
          have e13 := e2.trans e3
          refine q_when (b := false) (et_test (ev_is (ev_op (ev_len (ev_var rfl) (ex_l e13 ha)) (Ev.int_eq (ev_len (ev_var rfl) (ex_l e13 hb)) hln) (rv_ne rfl)) (by simp))) (fun hb => nomatch hb) fun _ H4 e4 => ?_
          have e14 := e13.trans e4
          refine s_ret (v := .bl true) (ev_eqNil (xs := given (ys.length : Int).toNat (fun _ => false) (fun i => .int (i : Int))) (el_lcR1 (n := (ys.length : Int)) (fun _ => false) _ (ea_cons (ev_len (ev_var rfl) (ex_l e14 hb)) ea_nil) ⟨by omega, by omega⟩ (fun _ => rfl) (fun i G e5 hi => ?_) (fun _ _ _ _ hf => nomatch hf)) (el_lst ea_nil (by show 0 ≤ 100000; decide)) (given_none fun _ _ => rfl)) fun H5 e5 => k H5 (e14.trans e5)
          have hx : (i : Nat) < xs.length := by omega
          have hy : (i : Nat) < ys.length := by omega
          refine et_not (a := true) (et_B (ev_call (vs := [xs[i], ys[i]]) (ea_cons (ev_ixL (ev_var rfl) (ex_l (e14.trans e5) ha) (ev_var rfl) (atI_nat (by simp))) (ea_cons (ev_ixL (ev_var rfl) (ex_l (e14.trans e5) hb) (ev_var rfl) (atI_nat (by simp))) ea_nil)) (spv_same ?_)))
          exact (hA i _ _ (by simp) (by simp)).mono (e14.trans e5)
section
variable {σ : L2.St} {H : Hp} {ta tb tc : TE} {p q : Addr} {ns : List Int}
theorem et_chain {i j k : Int} {f g : Int → Int → Bool} (ha : Ev ta σ H (.int i)) (hb : Ev tb σ H (.int j)) (hc : Ev tc σ H (.int k)) : EvT (tTest (tChain (rI0 fun i j => .bl (f i j)) (rI0 fun i j => .bl (g i j)) ta tb tc)) σ H (f i j && g j k) := et_test (fun H1 e Q q =>
  ha H1 e _ fun H2 e2 => hb H2 (e.trans e2) _ fun H3 e3 => ⟨i, j, rfl, rfl, f i j, rfl, by
    cases hf : f i j with
    | true => exact hc H3 ((e.trans e2).trans e3) _ fun H4 e4 => ⟨j, k, rfl, rfl, by rw [hf] at q; exact q H4 ((e2.trans e3).trans e4)⟩
    | false => rw [hf] at q; exact q H3 (e2.trans e3)⟩)
theorem alk_ref {n : Nat} {G : Hp} (h1 : SqT K G p (ns.map V.int)) (h2 : SqT K G q (ns.map V.int)) (hl : ns.length ≤ 1000) : Alk K G (n + 1) (.ref p) (.ref q) :=
  .inr ⟨p, q, _, _, rfl, rfl, .inl ⟨h1, h2⟩, rfl, by rw [List.length_map]; exact hl, fun j u v hu hv => by
    have e : u = v := Option.some.inj (hu.symm.trans hv)
    subst e
    obtain ⟨rfl, _⟩ := at_map hu
    cases n with
    | zero => exact .inl ⟨_, rfl, rfl⟩
    | succ n => exact .inl (.inl ⟨_, rfl, rfl⟩)⟩
end
end Sw
namespace Sw
open PySem PySem.Spec PyProof.Rows L2 Evl GnX LamX NdefX
local macro_rules | `(tactic| walk_at "ev") => `(tactic| first
  | exact ev_c
  | exact ev_var rfl
  | ((with_reducible show Ev (tCB rMax2 _) _ _ _); exact ev_maxi (by walk_at "ev") (by walk_at "ev"))
  | ((with_reducible show Ev (tCB rMn _) _ _ _); exact ev_min2 (by walk_at "ev") (by walk_at "ev"))
  | ((with_reducible show Ev (tUn _ _) _ _ _); exact ev_un (by walk_at "ev") ru_neg)
  | ((with_reducible show Ev (tFld _ _ _) _ _ _); exact ev_fldK (by walk_at "ev") (by assumption))
  | ((with_reducible show Ev (tOp (rI0 _) _ _) _ _ _); exact ev_op (by walk_at "ev") (by walk_at "ev") rv_I0)
  | ((with_reducible show Ev (tOp rEq _ _) _ _ _); exact ev_op (by walk_at "ev") (by walk_at "ev") (rv_eq rfl))
  | ((with_reducible show Ev (tOp rNe _ _) _ _ _); exact ev_op (by walk_at "ev") (by walk_at "ev") (rv_ne rfl)))

def sp_lawT (K : PySem.W.Frag) (tb : Addr) : Sp := fun vs H Q _ => ∃ (a : Addr) (ns : List Int), vs = [.ref a] ∧ SqL K H a (ns.map V.int) ∧ ns.length ≤ 63 ∧ H tb = some (.tbl #[]) ∧ ∀ H', Q (.bl true) H'
theorem sql_wn {K : PySem.W.Frag} {h l : Addr} {H H1 : Hp} {xs : List V} (hh : H h = none) (hS : SqL K H l xs) (e : Ex H H1) : SqL K (wn H1 (hl h l)) l xs := by
  have go : ∀ {o : HO}, H l = some o → wn H1 (hl h l) l = some o := fun {o} q => by
    have ne : ¬ hl h l l := fun z => by rw [show l = h from z, hh] at q; cases q
    exact (wn_ni ne).trans (e _ _ q)
  rcases hS with (q | ⟨u, q⟩) | q
  · exact .inl (.inl (go q))
  · exact .inl (.inr ⟨u, go q⟩)
  · exact .inr q
section
variable {K : PySem.W.Frag} {Z : Ad} {σ : L2.St} {H H' : Hp} {ta tb tc te : TE} {t : TA} {xs : List V} {h l p r dx pd R : Addr} {A B : Int → Prop} {E : XK} {rk : RK} {ds ns : List Int} {L n : Nat} {rs : List Addr} {m : Nat} {D : Ends} {tz : TS} {plus : Int}
theorem tb_dr {tb : Addr} {ps : Array Value} (hs : HS H h l) (d : Dr h l H H') (q : H tb = some (.tbl ps)) : H' tb = some (.tbl ps) := wn_ex _ _ (d.ex _ _ ((wn_ni (hl_kind hs q (fun _ z => nomatch z))).trans q))
/-- one of some values -/
theorem x_pickV (ha : EvL ta σ (wn H (hl h l)) xs) (hb : EvI tb σ H h l B) (hn : ∀ i, B i → 0 ≤ i ∧ i < (xs.length : Int)) : EvX (tOp (rIxL K) ta tb) σ H h l (fun v _ => v ∈ xs) := fun H1 d Q q =>
  x_evL ha H1 d _ fun _ H2 d2 ⟨p, e, hp⟩ => hb H2 (d.trans d2) _ fun _ H3 d3 ⟨j, e', hj⟩ => by
    subst e e'
    obtain ⟨j0, j1⟩ := hn j hj
    obtain ⟨k, rfl⟩ : ∃ k : Nat, j = (k : Int) := ⟨j.toNat, by omega⟩
    have hk : k < xs.length := by omega
    exact ⟨p, xs, (k : Int), xs[k], rfl, rfl, sq_of (wn_ex _ _ (d3.ex _ _ hp)), atI_nat (by simp [hk]), q _ H3 (d2.trans d3) (List.getElem_mem hk)⟩
theorem x_lst2I (ha : EvI ta σ H h l A) (hb : EvI tb σ H h l A) : EvX (tLst (tCons ta (tCons tb tNil))) σ H h l (LI fun ns => (ns.length : Int) = 2 ∧ ∀ x ∈ ns, A x) := fun H1 d Q q =>
  ha H1 d _ fun _ H2 d2 ⟨i, e, hi⟩ => hb H2 (d.trans d2) _ fun _ H3 d3 ⟨j, e', hj⟩ => by
    subst e e'
    refine ⟨by show 2 ≤ sizeLine; decide, fun r hr => ?_⟩
    have d4 := Dr.of d3.hs (Ex.new (o := .lst ([i, j].map V.int)) hr)
    exact q _ _ ((d2.trans d3).trans d4) ⟨r, [i, j], rfl, by rw [wn_ni (hl_new (G' := H3) d3.hs hr)]; exact upd_same, rfl, fun x hx => by
      simp only [List.mem_cons, List.not_mem_nil, or_false] at hx
      rcases hx with rfl | rfl
      · exact hi
      · exact hj⟩
theorem xi_pickX {n : Int} (ha : EvX ta σ H h l (LI fun ns => (ns.length : Int) = n ∧ ∀ x ∈ ns, A x)) (hb : EvI tb σ H h l B) (hn : ∀ i, B i → 0 ≤ i ∧ i < n) : EvI (tOp (rIxL K) ta tb) σ H h l A := fun H1 d Q q =>
  ha H1 d _ fun _ H2 d2 ⟨p, ns, e, hp, hl', hA⟩ => hb H2 (d.trans d2) _ fun _ H3 d3 ⟨j, e', hj⟩ => by
    subst e e'
    obtain ⟨j0, j1⟩ := hn j hj
    refine ⟨p, ns.map V.int, j, .int (ns.getD j.toNat 0), rfl, rfl, sq_of (wn_ex _ _ (d3.ex _ _ hp)), atI_mapI j0 (by omega), q _ H3 (d2.trans d3) ⟨_, rfl, ?_⟩⟩
    have hlt : j.toNat < ns.length := by omega
    have e : ns.getD j.toNat 0 = ns[j.toNat] := by simp [List.getD, hlt]
    rw [e]; exact hA _ (List.getElem_mem hlt)
/-- rows of words that are equal -/
theorem ev_neWords {ta tb : TE} (hp : ∀ x ∈ xs, plainV x) (hs : SeqAt.shaped (.tuple (xs.map vD)) = true) (he : PyData.eqv (.tuple (xs.map vD)) (.tuple (xs.map vD)) = true) (h1 : EvU ta σ H xs) (h2 : EvU tb σ H xs) : Ev (tOp (rNeD K) ta tb) σ H (.bl false) := fun H1 e Q q =>
  h1 H1 e _ fun p H2 _ e2 h1 => h2 H2 (e.trans e2) _ fun u H3 _ e3 h2 => ⟨_, _, dp_row (st_of (e3 _ _ h1)) hp, dp_row (st_of h2) hp, hs, hs, by rw [he]; exact q H3 (e2.trans e3)⟩
theorem q_rule (h1 : Ev ta σ H (.str (wordR rk))) (h2 : ∀ G, Ev tb σ G (.int (amR rk))) (h3 : ∀ G, Ev tc σ G (.int plus)) (hp : ∀ a m, rk = .sol a m → plus = m) (ok : rk.ok) (k : ∀ r dx H', Ex H H' → RuleR Z H' r dx rk → tz D (σ.set m (some (.ref r))) H') :
    tSeq (tAsg (tCall (sp_lawrule Z) [] E (tCons ta (tCons tb (tCons tc tNil)))) (gName m)) tz D σ H := h1 H (Ex.refl _) _ fun H1 e1 => h2 H1 H1 (Ex.refl _) _ fun H2 e2 => h3 H2 H2 (Ex.refl _) _ fun H3 e3 => ⟨rk, plus, rfl, hp, ok, fun r dx H' _ e hR => k r dx H' (((e1.trans e2).trans e3).trans e) hR⟩
theorem q_days {te tf tg : TE} (h1 : Ev ta σ H (.str (wordR rk))) (h2 : ∀ G, Ev tb σ G (.int (amR rk))) (h3 : ∀ G, Ev tc σ G (.int plus)) (h4 : ∀ G, Ev te σ G (.ref pd)) (h5 : ∀ G, Ev tf σ G (.int (L : Int))) (h6 : ∀ G, Ev tg σ G (.int (n : Int))) (hp : ∀ a m, rk = .sol a m → plus = m) (ok : rk.ok) (x : DemOk H pd ds L n) (hn : n ≤ 900)
    (k : ∀ R rs H', H R = none → Ex H H' → RowsAt H' R rs rk ds L n → tz D (σ.set m (some (.ref R))) H') :
    tSeq (tAsg (tCall (sp_lawdays Z) [] E (tCons ta (tCons tb (tCons tc (tCons te (tCons tf (tCons tg tNil))))))) (gName m)) tz D σ H := h1 H (Ex.refl _) _ fun H1 e1 => h2 H1 H1 (Ex.refl _) _ fun H2 e2 => h3 H2 H2 (Ex.refl _) _ fun H3 e3 => h4 H3 H3 (Ex.refl _) _ fun H4 e4 => h5 H4 H4 (Ex.refl _) _ fun H5 e5 => h6 H5 H5 (Ex.refl _) _ fun H6 e6 => by
  have e16 := ((e1.trans e2).trans e3).trans ((e4.trans e5).trans e6)
  exact ⟨rk, plus, pd, ds, L, n, rfl, hp, ok, x.mono e16, hn, fun R rs H' nR e hR => k R rs H' (fresh_back e16 nR) (e16.trans e) hR⟩
theorem rrow_len {i : Nat} : (rrow rk ds L i).length = 4 := rfl
theorem s_retCallR {sp : Sp} (hk : EvRu Z te σ H rk) (k : ∀ r H1, Ex H H1 → sp [.ref r] H1 D.rt E) : tRet (tCall sp [] E (tCons te tNil)) D σ H := hk H (Ex.refl _) _ fun r dx H1 _ e hR => k r H1 e
/-- the rows of run are the rows of the law -/
theorem ev_sameRun {j : Nat} (ha : EvAr Z t σ H rk pd L n) (x : DemOk H pd ds L n) (ok : rk.ok) (hn : n ≤ 900) (hR : RowsAt H R rs rk ds L n) (hb : ∀ G, Ev tb σ G (.ref R)) (hw : ∀ x, wipe ((wipe σ [j]).set j (some x)) [j] = wipe σ [j]) (hj : j < σ.length) :
    Ev (tCall (sp_same K 2) [] E (tCons (tLcGn (tCallGn (sp_run Z) [] t) (gName j) (tVar j) [j]) (tCons tb tNil))) σ H (.bl true) := fun H0 e0 Q qq => ha H0 e0 _ fun r dx H1 e1 hRu => by
  have e01 := e0.trans e1
  have z := el_lcGn (ta := fun σ G Q => Q [.ref r, .ref pd, .int (L : Int), .int (n : Int)] G) (σ := σ) (H := H1) (j := j) (v0 := 0) (sp := sp_run Z) (vs := [.ref r, .ref pd, .int (L : Int), .int (n : Int)]) (cn := cnOf Z r dx pd rk ds) (rows := (rrows rk ds L n).map (·.map V.int))
    (fun G eG Q q => q G (Ex.refl _)) (fun G eG => run_sp x ok (e01.trans eG) (hRu.mono eG)) (knows_cn hRu (e01 _ _ x.td)) hw hj (by rw [List.length_map, rrows_len]; have := x.nn; omega) (Q := fun v G => tb σ G fun u G1 => sp_same K 2 [v, u] G1 Q E) fun Dl ps H2 nD e2 hD hl hp => ?_
  · exact z
  · refine hb H2 H2 (Ex.refl _) _ fun H3 e3 => ?_
    have hl : ps.length = n := by rw [hl, List.length_map, rrows_len]
    have hR3 := hR.mono ((e01.trans e2).trans e3)
    refine ⟨_, _, rfl, .inr ⟨Dl, R, ps.map V.ref, rs.map V.ref, rfl, rfl, .inr ⟨sq_of (e3 _ _ hD), sq_of hR3.hs⟩, by rw [List.length_map, List.length_map, hl, hR3.len], by rw [List.length_map]; omega, fun i u v hu hv => ?_⟩, fun H4 e4 => qq H4 ((e1.trans e2).trans (e3.trans e4))⟩
    rw [List.getElem?_map] at hu hv
    obtain ⟨p, hpi, rfl⟩ := Option.map_eq_some_iff.mp hu
    obtain ⟨q, hqi, rfl⟩ := Option.map_eq_some_iff.mp hv
    have hin : i < n := by have := (List.getElem?_eq_some_iff.mp hpi).1; omega
    exact alk_ref (n := 0) (st_of (e3 _ _ (hp i p _ hpi (rrows_get hin)))) (st_of (hR3.row i q hqi)) (by rw [rrow_len]; decide)
theorem ev_sameUV {q : Addr} (h1 : EvU ta σ H (ns.map V.int)) (hb : ∀ G, Ev tb σ G (.ref q)) (hq : H q = some (.tup (ns.map V.int))) (hl : ns.length ≤ 1000) : Ev (tCall (sp_same K 2) [] E (tCons ta (tCons tb tNil))) σ H (.bl true) := fun H1 e Q k =>
  h1 H1 e _ fun p H2 _ e2 hp => hb H2 H2 (Ex.refl _) _ fun H3 e3 => ⟨_, _, rfl, alk_ref (n := 1) (st_of (e3 _ _ hp)) (st_of ((e.trans (e2.trans e3)) _ _ hq)) hl, fun H4 e4 => k H4 ((e2.trans e3).trans e4)⟩
end
theorem ev_conR {K : PySem.W.Frag} {mg : Str → Option Value} {Z : Ad} (T : Txt K mg Z) {σ : L2.St} {H : Hp} {ta : TE} {r dx : Addr} {rk : RK} (h : Ev ta σ H (.ref r)) (hR : RuleR Z H r dx rk) : Ev (tCon K ta (Str.ofString "KIND")) σ H (.str (wordR rk)) := fun H1 e Q q => h H1 e _ fun H2 e2 => by
  have hR2 := hR.mono (e.trans e2)
  rcases rk with a | g | ⟨a, m⟩
  · obtain ⟨u, c⟩ := T.cn_Rule_KIND
    exact ⟨r, Z.c_Rule, dx, _, _, u, rfl, hR2.ins, T.cl_Rule, c, rfl, q H2 e2⟩
  · obtain ⟨u, c⟩ := T.cn_RefillRule_KIND
    exact ⟨r, Z.c_RefillRule, dx, _, _, u, rfl, hR2.ins, T.cl_RefillRule, c, rfl, q H2 e2⟩
  · obtain ⟨u, c⟩ := T.cn_SoldRule_KIND
    exact ⟨r, Z.c_SoldRule, dx, _, _, u, rfl, hR2.ins, T.cl_SoldRule, c, rfl, q H2 e2⟩
theorem ev_isRule {K : PySem.W.Frag} {mg : Str → Option Value} {Z : Ad} (T : Txt K mg Z) {σ : L2.St} {H : Hp} {ta : TE} {r dx : Addr} {rk : RK} (h : Ev ta σ H (.ref r)) (hR : RuleR Z H r dx rk) : Ev (tCB (rIsi K) (tCons ta (tCons (tC (.ref Z.c_Rule)) tNil))) σ H (.bl true) := fun H1 e Q q => h H1 e _ fun H2 e2 => by
  have hR2 := hR.mono (e.trans e2)
  rcases rk with a | g | ⟨a, m⟩
  · exact ⟨.ref r, .ref Z.c_Rule, .ref Z.c_Rule, .ref Z.c_Rule, true, rfl, .own _, .base (.ins hR2.ins T.in_Rule.cl T.in_Rule.ha T.in_Rule.hn T.in_Rule.htk T.in_Rule.hm), T.in_Rule.me, q H2 e2⟩
  · exact ⟨.ref r, .ref Z.c_Rule, .ref Z.c_RefillRule, .ref Z.c_Rule, true, rfl, .own _, .base (.ins hR2.ins T.in_RefillRule.cl T.in_RefillRule.ha T.in_RefillRule.hn T.in_RefillRule.htk T.in_RefillRule.hm), T.ik_RefillRule_Rule, q H2 e2⟩
  · exact ⟨.ref r, .ref Z.c_Rule, .ref Z.c_SoldRule, .ref Z.c_Rule, true, rfl, .own _, .base (.ins hR2.ins T.in_SoldRule.cl T.in_SoldRule.ha T.in_SoldRule.hn T.in_SoldRule.htk T.in_SoldRule.hm), T.ik_SoldRule_Rule, q H2 e2⟩
def wordsV : List V := [.str "fixed", .str "refill", .str "sold"]
theorem pick_rule {v : V} {a p : Int} (hv : v ∈ wordsV) (a0 : 0 ≤ a) (a1 : a ≤ 1000000000) (p0 : -1000000000 ≤ p) (p1 : p ≤ 1000000000) : ∃ rk : RK, v = .str (wordR rk) ∧ a = amR rk ∧ (∀ a m, rk = .sol a m → p = m) ∧ rk.ok := by
  simp only [wordsV, List.mem_cons, List.not_mem_nil, or_false] at hv
  rcases hv with rfl | rfl | rfl
  · exact ⟨.fix a, rfl, rfl, fun _ _ z => (by cases z), a0, a1⟩
  · exact ⟨.ref a, rfl, rfl, fun _ _ z => (by cases z), a0, a1⟩
  · exact ⟨.sol a p, rfl, rfl, fun _ _ z => (by cases z; rfl), a0, a1, p0, p1⟩
variable {P : Program} {w : World} {K : PySem.W.Frag} {mg : Str → Option Value} {base : Heap} {Z : Ad}
set_option maxHeartbeats 16000000 in
theorem ok_law (T : Txt K mg Z) (hP : P = Z.P) (TB : LamX.TabB base mg Z.k__law_refused Z.tb__law_refused) : FnOk P w K mg base CX0 14 Z.f_law Z.d_law p_law (sp_lawT K Z.tb__law_refused) := by
  refine T.F_law.ok sc_law (fun vs H Q E h => ?_) (fun cdv Ar outer s H vs Q E hr h => ?_)
  · obtain ⟨a, ns, rfl, _⟩ := h
    rfl
  · obtain ⟨l, cells, rfl, hS, hn, hT0, k⟩ := h
    have p9 : (10 : Int) ^ (9 : Int).toNat = 1000000000 := by decide
    obtain ⟨cr1, u1, cv1⟩ := T.cv_Rule_KIND
    obtain ⟨cr2, u2, cv2⟩ := T.cv_RefillRule_KIND
    obtain ⟨cr3, u3, cv3⟩ := T.cv_SoldRule_KIND
    refine ⟨_, (pss_cons (ps_set (i := 1) sc_law.nd rfl (Or.inl rfl) (pe_call (ok__law_start T) (hr.mono (by decide)) (by rfl) T.g__law_start T.F__law_start.kp T.b__law_start .nil pass0 (pa_cons (pv 0) pa_nil)))
      (pss_cons (ps_if (pt_cmpR (op_neD hr.units) (pe_tup (pa_cons (ClX.pe_cval (pe_glob (v := .ref Z.c_Rule) (by rfl) T.g_Rule rfl) rfl) (pa_cons (ClX.pe_cval (pe_glob (v := .ref Z.c_RefillRule) (by rfl) T.g_RefillRule rfl) rfl) (pa_cons (ClX.pe_cval (pe_glob (v := .ref Z.c_SoldRule) (by rfl) T.g_SoldRule rfl) rfl) pa_nil)))) (pe_tup (pa_cons pe_str (pa_cons pe_str (pa_cons pe_str pa_nil)))) (nomark _)) (pss_one (ps_ret pe_bl)) pss_nil)
      (pss_cons (ps_for PassesOwn.never rfl (pi_range1 (by rfl) T.b_range (pa_cons pe_int pa_nil)) (pg_name (i := 2) sc_law.nd rfl (Or.inl rfl)) (pss_cons (ps_set (i := 3) sc_law.nd rfl (Or.inl rfl) (pe_ix (r := rIxL K) ix_list (pe_lst (pa_cons pe_int (pa_cons pe_int (pa_cons (pe_op op_pow pe_int pe_int) pa_nil)))) (pe_call (ok__law_drawn T) (hr.mono (by decide)) (by rfl) T.g__law_drawn T.F__law_drawn.kp T.b__law_drawn .nil pass0 (pa_cons (pv 1) (pa_cons pe_int pa_nil))) (fun _ _ => rfl)))
      (pss_cons (ps_set (i := 4) sc_law.nd rfl (Or.inl rfl) (pe_call (ok__law_amounts T) (hr.mono (by decide)) (by rfl) T.g__law_amounts T.F__law_amounts.kp T.b__law_amounts .nil pass0 (pa_cons (pv 1) (pa_cons (pe_op op_add pe_int (pe_call (ok__law_drawn T) (hr.mono (by decide)) (by rfl) T.g__law_drawn T.F__law_drawn.kp T.b__law_drawn .nil pass0 (pa_cons (pv 1) (pa_cons pe_int pa_nil)))) (pa_cons (pv 3) pa_nil)))))
      (pss_cons (ps_par (i := 5) (j := 6) rfl sc_law.nd rfl rfl (by decide) rfl rfl (pa_cons (pe_op op_add pe_int (pe_call (ok__law_drawn T) (hr.mono (by decide)) (by rfl) T.g__law_drawn T.F__law_drawn.kp T.b__law_drawn .nil pass0 (pa_cons (pv 1) (pa_cons (pe_ix (r := rIxL K) ix_list (pe_lst (pa_cons pe_int (pa_cons pe_int pa_nil))) (pe_call (ok__law_drawn T) (hr.mono (by decide)) (by rfl) T.g__law_drawn T.F__law_drawn.kp T.b__law_drawn .nil pass0 (pa_cons (pv 1) (pa_cons pe_int pa_nil))) (fun _ _ => rfl)) pa_nil)))) (pa_cons (pe_call (ok__law_drawn T) (hr.mono (by decide)) (by rfl) T.g__law_drawn T.F__law_drawn.kp T.b__law_drawn .nil pass0 (pa_cons (pv 1) (pa_cons pe_int pa_nil))) pa_nil)) (by rfl))
      (pss_cons (ps_par (i := 7) (j := 8) rfl sc_law.nd rfl rfl (by decide) rfl rfl (pa_cons (pe_ix (r := rIxL K) ix_list (pe_lst (pa_cons pe_str (pa_cons pe_str (pa_cons pe_str pa_nil)))) (pe_call (ok__law_drawn T) (hr.mono (by decide)) (by rfl) T.g__law_drawn T.F__law_drawn.kp T.b__law_drawn .nil pass0 (pa_cons (pv 1) (pa_cons pe_int pa_nil))) (fun _ _ => rfl)) (pa_cons (pe_call (ok__law_drawn T) (hr.mono (by decide)) (by rfl) T.g__law_drawn T.F__law_drawn.kp T.b__law_drawn .nil pass0 (pa_cons (pv 1) (pa_cons (pe_op op_add (pv 3) pe_int) pa_nil))) pa_nil)) (by rfl))
      (pss_cons (ps_set (i := 9) sc_law.nd rfl (Or.inl rfl) (pe_ix (r := rIxL K) ix_list (pe_lst (pa_cons (pe_op op_sub (pe_call (ok__law_drawn T) (hr.mono (by decide)) (by rfl) T.g__law_drawn T.F__law_drawn.kp T.b__law_drawn .nil pass0 (pa_cons (pv 1) (pa_cons pe_int pa_nil))) pe_int) (pa_cons (pe_op op_sub (pe_call (ok__law_drawn T) (hr.mono (by decide)) (by rfl) T.g__law_drawn T.F__law_drawn.kp T.b__law_drawn .nil pass0 (pa_cons (pv 1) (pa_cons (pe_op op_add (pe_op op_mul pe_int (pv 3)) pe_int) pa_nil))) (pv 3)) pa_nil))) (pe_call (ok__law_drawn T) (hr.mono (by decide)) (by rfl) T.g__law_drawn T.F__law_drawn.kp T.b__law_drawn .nil pass0 (pa_cons (pv 1) (pa_cons pe_int pa_nil))) (fun _ _ => rfl)))
      (pss_cons (ps_set (i := 10) sc_law.nd rfl (Or.inl rfl) (pe_call (ok__law_rule T hP) (hr.mono (by decide)) (by rfl) T.g__law_rule T.F__law_rule.kp T.b__law_rule .nil pass0 (pa_cons (pv 7) (pa_cons (pv 8) (pa_cons (pv 9) pa_nil)))))
      (pss_cons (ps_set (i := 11) sc_law.nd rfl (Or.inr rfl) (pe_call (ok__law_days T) (hr.mono (by decide)) (by rfl) T.g__law_days T.F__law_days.kp T.b__law_days .nil pass0 (pa_cons (pv 7) (pa_cons (pv 8) (pa_cons (pv 9) (pa_cons (pv 4) (pa_cons (pv 5) (pa_cons (pv 6) pa_nil))))))))
      (pss_cons (ps_for PassesOwn.never rfl (pi_range1 (by rfl) T.b_range (pa_cons pe_int pa_nil)) (pg_name (i := 12) sc_law.nd rfl (Or.inl rfl)) (pss_one (ps_if (pt_not (pt_val (pe_call (ok__law_same T 2) (hr.mono (by decide)) (by rfl) T.g__law_same T.F__law_same.kp T.b__law_same .nil pass0 (pa_cons (GnX.pe_lcGn (own := [("_law_row", 15)]) rfl sc_law.nd (hr.mono (by decide)) (GnX.pgn_call (ok_run T) (hr.mono (by decide)) (by rfl) T.g_run T.F_run.kp T.b_run .nil (pa_cons (pv 10) (pa_cons (pv 4) (pa_cons (pv 5) (pa_cons (pv 6) pa_nil))))) (blkOk_by (own := [("_law_row", 15)]) (N := n_law) (sc := defScope s_law) (scope := { kind := PySem.ScopeKind.function, names := [(PySem.Str.ofString ".0", PySem.NameKind.local), (PySem.Str.ofString "_law_row", PySem.NameKind.local)], isGenerator := false, isCoroutine := false, more := [] : PySem.Scope }) (by decide +kernel)) (fun _ _ _ _ _ => (pg_name (i := 15) sc_law.nd rfl (Or.inl rfl))) (fun _ _ _ _ _ => (pv 15))) (pa_cons (pv 11) pa_nil))))) (pss_one (ps_ret pe_bl)) pss_nil)))
      (pss_cons (ps_set (i := 13) sc_law.nd rfl (Or.inl rfl) (pe_callTy (r := rTupS K) (call_tuple_of) (by rfl) T.b_tuple boot_tuple (pa_cons (pe_lc (own := [("_law_k", 14)]) rfl sc_law.nd (pi_range1 (by rfl) T.b_range (pa_cons pe_int pa_nil)) (blkOk_by (own := [("_law_k", 14)]) (N := n_law) (sc := defScope s_law) (scope := { kind := PySem.ScopeKind.function, names := [ (PySem.Str.ofString ".0", PySem.NameKind.local), (PySem.Str.ofString "_law_k", PySem.NameKind.cell), (PySem.Str.ofString "sum", PySem.NameKind.globalImplicit), (PySem.Str.ofString "_law_rows", PySem.NameKind.free)], isGenerator := false, isCoroutine := false, more := [] : PySem.Scope }) (by decide +kernel)) (fun _ _ _ _ _ => (pg_name (i := 14) sc_law.nd rfl (Or.inr rfl))) (fun _ _ _ _ _ => pts_nil) (fun _ _ _ _ _ => (pe_callB (r := rSum K) (cr_sum rfl) (by rfl) T.b_sum boot_sum (pa_cons (pe_lc (own := [("_law_row", 15)]) rfl sc_law.nd (pi_listK K rfl (pv 11)) (blkOk_by (own := [("_law_row", 15)]) (N := n_law) (sc := { kind := PySem.ScopeKind.function, names := [ (PySem.Str.ofString ".0", PySem.NameKind.local), (PySem.Str.ofString "_law_k", PySem.NameKind.cell), (PySem.Str.ofString "sum", PySem.NameKind.globalImplicit), (PySem.Str.ofString "_law_rows", PySem.NameKind.cell)], isGenerator := false, isCoroutine := false, more := [] : PySem.Scope }) (scope := { kind := PySem.ScopeKind.function, names := [ (PySem.Str.ofString ".0", PySem.NameKind.local), (PySem.Str.ofString "_law_row", PySem.NameKind.local), (PySem.Str.ofString "_law_k", PySem.NameKind.free)], isGenerator := false, isCoroutine := false, more := [] : PySem.Scope }) (by decide +kernel)) (fun _ _ _ _ _ => (pg_name (i := 15) sc_law.nd rfl (Or.inl rfl))) (fun _ _ _ _ _ => pts_nil) (fun _ _ _ _ _ => (pe_ix (r := rIxT K) ix_tup (pv 15) (pv 14) (fun _ _ => rfl)))) pa_nil)))) pa_nil)))
      (pss_cons (ps_if (PW.pt (pw_or (pt_not (pt_val (pe_call (ok__law_same T 2) (hr.mono (by decide)) (by rfl) T.g__law_same T.F__law_same.kp T.b__law_same .nil pass0 (pa_cons (pe_call (ok_outcome T) (hr.mono (by decide)) (by rfl) T.g_outcome T.F_outcome.kp T.b_outcome .nil pass0 (pa_cons (pv 10) (pa_cons (pv 4) (pa_cons (pv 5) (pa_cons (pv 6) pa_nil))))) (pa_cons (pv 13) pa_nil))))) (pw_or1 (pt_cmpR op_ne (pe_con (pv 10) rfl) (pv 7) (nomark _))))) (pss_one (ps_ret pe_bl)) pss_nil)
      (pss_one (ps_if (pt_not (pt_val (pe_callB (r := rIsi K) (call_isi) (by rfl) T.b_isinstance boot_isinstance (pa_cons (pv 10) (pa_cons (pe_glob (by rfl) T.g_Rule (v := .ref Z.c_Rule) rfl) pa_nil))))) (pss_one (ps_ret pe_bl)) pss_nil)))))))))))))
      (pss_one (ps_ret (pe_call (ok__law_refused T hP TB) (hr.mono (by decide)) (by rfl) T.g__law_refused T.F__law_refused.kp T.b__law_refused .nil pass0 (pa_cons (pe_make T.mk_Rule (ok_Rule___init__ T) (hr.mono (by decide)) (by rfl) T.g_Rule T.b_Rule___init__ .nil pass0 (pa_cons pe_int pa_nil)) pa_nil))))))), ?_⟩
    refine ⟨_, rfl, l, cells, rfl, hS, hn, fun h H1 hh e1 hs1 => ?_⟩
    refine q_when (b := false) (et_test (ev_neWords (xs := wordsV) (by simp [wordsV, plainV]) (by decide +kernel) (by decide +kernel) (eu_tup (ea_cons (ev_cval ev_c cr1 cv1) (ea_cons (ev_cval ev_c cr2 cv2) (ea_cons (ev_cval ev_c cr3 cv3) ea_nil))) (by show 3 ≤ 100000; decide)) (eu_tup (ea_cons ev_c (ea_cons ev_c (ea_cons ev_c ea_nil))) (by show 3 ≤ 100000; decide)))) (fun hb => nomatch hb) fun _ H1' e1' => ?_
    refine q_forR1 (n := 5) (ea_cons ev_c ea_nil) ⟨by decide, by decide⟩ (fun _ σ' H' => (∃ x2 x3 x4 x5 x6 x7 x8 x9 x10 x11 x12 x13 x14 x15, σ' = [some (.ref l), some (.ref h), x2, x3, x4, x5, x6, x7, x8, x9, x10, x11, x12, x13, x14, x15]) ∧ HS H' h l ∧ SqL K (wn H' (hl h l)) l (cells.map V.int) ∧ H' Z.tb__law_refused = some (.tbl #[]))
      (fun H2 e2 => ⟨⟨_, _, _, _, _, _, _, _, _, _, _, _, _, _, rfl⟩, hs1.mono (e1'.trans e2), sql_wn hh hS ((e1.trans e1').trans e2), ((e1.trans e1').trans e2) _ _ hT0⟩) ?_ (fun σ' H' q => ?_)
    · rintro turn σ' H0 ht ⟨⟨_, _, _, _, _, _, _, _, _, _, _, _, _, _, rfl⟩, hs0, hc0, ht0⟩
      -- the greatest amount
      refine x_asgI (A := fun i => i = 5 ∨ i = 30 ∨ i = 1000000000) hs0 ((xi_pick (K := K) (n := 3) (ns := [5, 30, 1000000000]) (B := fun i => 0 ≤ i ∧ i < 3) (el_lst (ea_cons ev_c (ea_cons ev_c (ea_cons (Ev.int_eq (ev_op ev_c ev_c (rv_I ⟨by decide, by decide, by decide⟩)) p9) ea_nil))) (by show 3 ≤ 100000; decide))
        (xi_dr (cells := cells) hc0 (fun G => ev_var rfl) (xi_ev ev_c rfl) (by decide) (by decide)) (fun i q => by simpa using q)).imp fun i q => by simpa using q) fun high H2 d2 hh2 => ?_
      have hc2 := ex_l d2.ex hc0
      have ht2 := tb_dr hs0 d2 ht0
      -- the demands
      refine x_asg d2.hs (x_amountsI (cells := cells) (A := fun i => 1 ≤ i ∧ i ≤ 7) (B := fun i => i = high) hc2 (fun G => ev_var rfl) (xi_op0 (A := fun i => i = 1) (xi_ev ev_c rfl) (xi_dr (cells := cells) (n := 7) hc2 (fun G => ev_var rfl) (xi_ev ev_c rfl) (by decide) (by decide)) (fun i j a b => by omega)) (xi_ev (ev_var rfl) rfl) (fun n q => by omega) (fun n q => by omega)) fun v H3 d3 ⟨pd, ds, ev, hd3, ld, w0, ew, md⟩ => ?_
      subst ev
      rw [ew] at md
      have hc3 := ex_l d3.ex hc2
      have ht3 := tb_dr d2.hs d3 ht2
      have dd : ∀ x ∈ ds, 0 ≤ x ∧ x ≤ 1000000000 := fun x hx => by have := md x hx; omega
      -- the life, the days
      refine x_par (P := fun v _ => ∃ i, v = .int i ∧ (1 ≤ i ∧ i ≤ 30)) (Q := fun v _ => ∃ i, v = .int i ∧ (0 ≤ i ∧ i < 80)) d3.hs
        (xi_op0 (A := fun i => i = 1) (B := fun i => 0 ≤ i ∧ i < 30) (D := fun i => 1 ≤ i ∧ i ≤ 30) (xi_ev ev_c rfl) (xi_drA (cells := cells) (n := 30) (A := fun i => i ∈ ([4, 30] : List Int)) hc3 (fun G => ev_var rfl) (xi_pick (K := K) (n := 2) (ns := [4, 30]) (B := fun i => 0 ≤ i ∧ i < 2) (el_lst (ea_cons ev_c (ea_cons ev_c ea_nil)) (by show 2 ≤ 100000; decide)) (xi_dr (cells := cells) hc3 (fun G => ev_var rfl) (xi_ev ev_c rfl) (by decide) (by decide)) (fun i q => by simpa using q)) (fun i q => by simp at q; omega) (by decide)) (fun i j a b => by omega))
        (xi_dr (cells := cells) (n := 80) hc3 (fun G => ev_var rfl) (xi_ev ev_c rfl) (by decide) (by decide)) fun v1 v2 Ha H4 da db ⟨life, ev1, hli⟩ ⟨days, ev2, hda⟩ => ?_
      subst ev1 ev2
      have d4 := da.trans db
      obtain ⟨L, rfl⟩ : ∃ L : Nat, life = (L : Int) := ⟨life.toNat, by omega⟩
      obtain ⟨n, rfl⟩ : ∃ n : Nat, days = (n : Int) := ⟨days.toNat, by omega⟩
      have hc4 := ex_l d4.ex hc3
      have ht4 := tb_dr d3.hs d4 ht3
      have hd4 := d4.ex _ _ hd3
      -- the word, the amount
      refine x_par (P := fun v _ => v ∈ wordsV) (Q := fun v _ => ∃ i, v = .int i ∧ (0 ≤ i ∧ i < high + 1)) d4.hs
        (x_pickV (K := K) (xs := wordsV) (B := fun i => 0 ≤ i ∧ i < 3) (el_lst (ea_cons ev_c (ea_cons ev_c (ea_cons ev_c ea_nil))) (by show 3 ≤ 100000; decide)) (xi_dr (cells := cells) hc4 (fun G => ev_var rfl) (xi_ev ev_c rfl) (by decide) (by decide)) (fun i q => q))
        (xi_dr (cells := cells) (n := high + 1) hc4 (fun G => ev_var rfl) (xi_op0 (A := fun i => i = high) (B := fun i => i = 1) (xi_ev (ev_var rfl) rfl) (xi_ev ev_c rfl) (fun i j a b => by omega)) (by omega) (by omega)) fun vw v2 Hb H5 dc de hvw ⟨am, ev2, ham⟩ => ?_
      subst ev2
      have d5 := dc.trans de
      have hc5 := ex_l d5.ex hc4
      have ht5 := tb_dr d4.hs d5 ht4
      have hd5 := d5.ex _ _ hd4
      -- the further number
      refine x_asgI (A := fun i => -1000000000 ≤ i ∧ i ≤ 1000000000) d5.hs (xi_pickX (K := K) (n := 2) (B := fun i => 0 ≤ i ∧ i < 2) (x_lst2I
          (xi_op0 (A := fun i => 0 ≤ i ∧ i < 5) (B := fun i => i = 2) (xi_dr (cells := cells) (n := 5) hc5 (fun G => ev_var rfl) (xi_ev ev_c rfl) (by decide) (by decide)) (xi_ev ev_c rfl) (fun i j a b => by omega))
          (xi_op0 (A := fun i => 0 ≤ i ∧ i < 2 * high + 1) (B := fun i => i = high) (xi_dr (cells := cells) (n := 2 * high + 1) hc5 (fun G => ev_var rfl) (xi_op0 (A := fun i => i = 2 * high) (B := fun i => i = 1) (xi_op (A := fun i => i = 2) (B := fun i => i = high) (xi_ev ev_c rfl) (xi_ev (ev_var rfl) rfl) (fun i j a b => ⟨wide_ok (by omega), by rw [a, b]⟩)) (xi_ev ev_c rfl) (fun i j a b => by omega)) (by omega) (by omega)) (xi_ev (ev_var rfl) rfl) (fun i j a b => by omega)))
          (xi_dr (cells := cells) (n := 2) hc5 (fun G => ev_var rfl) (xi_ev ev_c rfl) (by decide) (by decide)) (fun i q => q)) fun plus H6 d6 hpl => ?_
      have hc6 := ex_l d6.ex hc5
      have ht6 := tb_dr d5.hs d6 ht5
      have hd6 := d6.ex _ _ hd5
      have hs6 := d6.hs
      obtain ⟨rk, ew1, ea1, hp, ok⟩ := pick_rule hvw (show 0 ≤ am by omega) (by omega) hpl.1 hpl.2
      subst ew1 ea1
      have x6 : DemOk (wn H6 (hl h l)) pd ds L n := ⟨hd6, by omega, by omega, dd, by omega, by omega, by omega⟩
      have hn8 : n < 80 := by omega
      clear d2 d3 d4 d5 d6 da db dc de hd3 hd4 hd5 hd6 hs0 hc0 hc2 hc3 hc4 hc5 md ld ew hli hda ht0 ht2 ht3 ht4 ht5 ham hvw
      -- the rule
      refine q_rule (Z := Z) (ev_var rfl) (fun G => ev_var rfl) (fun G => ev_var rfl) hp ok fun r dx H7 e7 hRu => ?_
      have x7 := (x6.mono wn_ex).mono e7
      -- its days
      refine q_days (ev_var rfl) (fun G => ev_var rfl) (fun G => ev_var rfl) (fun G => ev_var rfl) (fun G => ev_var rfl) (fun G => ev_var rfl) hp ok x7 (by omega) fun R rs H8 nR e8 hRows => ?_
      have hRu8 := hRu.mono e8
      have x8 := x7.mono e8
      -- the rows of run
      refine q_forR1 (n := 2) (ea_cons ev_c ea_nil) ⟨by decide, by decide⟩ (fun _ σ' H' => (∃ x12, σ' = [some (.ref l), some (.ref h), some (.int turn), some (.int high), some (.ref pd), some (.int (L : Int)), some (.int (n : Int)), some (.str (wordR rk)), some (.int (amR rk)), some (.int plus), some (.ref r), some (.ref R), x12, _, _, _]) ∧ Ex H8 H') (fun H9 e9 => ⟨⟨_, rfl⟩, e9⟩) ?_ ?_
      · rintro i σ' H9 hi ⟨⟨x12, rfl⟩, e9⟩
        exact s_when (b := false) (et_not (a := true) (et_B (ev_sameRun (K := K) (Z := Z) (ear_var (fun G => ev_var rfl) (hRu8.mono e9) (fun G => ev_var rfl) (fun G => ev_var rfl) (fun G => ev_var rfl)) (x8.mono e9) ok (by omega) (hRows.mono e9) (fun G => ev_var rfl) (fun _ => rfl) (by simp)))) (fun hb => nomatch hb) fun _ H10 e10 => ⟨⟨_, rfl⟩, e9.trans e10⟩
      rintro σ' H9 ⟨⟨x12, rfl⟩, e9⟩
      have hRows9 := hRows.mono e9
      -- the sums
      refine q_asgU (xs := (cols rk ds L n).map V.int) (eu_tupL (K := K) (el_isV (el_lcR1 (n := 4) (fun _ => true) (fun i => .int ((cols rk ds L n).getD i 0)) (ea_cons ev_c ea_nil) ⟨by decide, by decide⟩ (fun _ => rfl) (fun _ _ _ _ => et_yes) (fun i G eG hi _ => ?_)) ?_)) fun sp H10 nsp e10 hsp => ?_
      · have hi4 : i < 4 := by omega
        have es : ((List.range rs.length).map fun d => (rrow rk ds L d).getD i 0).sum = (cols rk ds L n).getD i 0 := by
          rw [range_sum, hRows9.len]
          match i, hi4 with
          | 0, _ => rfl
          | 1, _ => rfl
          | 2, _ => rfl
          | 3, _ => rfl
        refine Ev.int_eq (ev_sumN (K := K) (ns := (List.range rs.length).map fun d => (rrow rk ds L d).getD i 0) (el_isV (el_lcL (K := K) (fun _ => true) (fun d => .int ((rrow rk ds L d).getD i 0)) (ev_var rfl) (sq_of (eG _ _ hRows9.hs)) (by rw [List.length_map, hRows9.len]; omega) (fun _ => rfl) (fun _ _ _ _ _ => et_yes) (fun d x G1 e1 hx _ => ?_)) ?_)) es
        · rw [List.getElem?_map] at hx
          obtain ⟨p, hp, rfl⟩ := Option.map_eq_some_iff.mp hx
          exact ev_ixT (ev_var rfl) (st_of ((eG.trans e1) _ _ (hRows9.row d p hp))) (ev_var rfl) (atI_mapI (i := (i : Int)) (by omega) (by rw [rrow_len]; omega))
        · rw [List.length_map, given_all, List.map_map]; rfl
      · rw [given_all]; rfl
      have e910 := e9.trans e10
      have hRu10 := hRu8.mono e910
      have x10 := x8.mono e910
      -- outcome, its kind
      refine q_when (b := false) (et_is (et_or (a := false) (b := false) (et_not (a := true) (et_B (ev_sameUV (K := K) (ns := cols rk ds L n) (eu_out (ear_var (fun G => ev_var rfl) hRu10 (fun G => ev_var rfl) (fun G => ev_var rfl) (fun G => ev_var rfl)) x10 ok) (fun G => ev_var rfl) hsp (by rw [cols_len]; decide)))) fun _ => et_test (ev_is (ev_op (ev_conR T (ev_var rfl) hRu10) (ev_var rfl) (rv_ne rfl)) (by simp))) rfl) (fun hb => nomatch hb) fun _ H11 e11 => ?_
      exact s_when (b := false) (et_not (a := true) (et_B (ev_isRule T (ev_var rfl) (hRu10.mono e11)))) (fun hb => nomatch hb) fun _ H12 e12 => by
        have eA := (e7.trans e8).trans ((e910.trans e11).trans e12)
        exact ⟨⟨_, _, _, _, _, _, _, _, _, _, _, _, _, _, rfl⟩, hs6.mono eA, ex_l (wn_mono eA) hc6, eA _ _ ht6⟩
    · obtain ⟨⟨_, _, _, _, _, _, _, _, _, _, _, _, _, _, rfl⟩, _, _, htb⟩ := q
      exact s_retCallR (Z := Z) (er_fix (Z := Z) (a := 1) (ea_cons ev_c ea_nil) (by decide) (by decide)) fun r H2 e2 => ⟨r, rfl, e2 _ _ htb, fun H3 => k H3⟩
end Sw
namespace Sw
open PySem PySem.Spec PyProof.Rows L2 Evl
theorem all_mk {l : PySem.W.OpenLaw} {w : World} {K : PySem.W.Frag} {h : Heap} {mg : Str → Option Value} {fa c_Bakery c_Rule c_RefillRule c_SoldRule c_LoafError c_InvalidBakery c_InvalidNumber c_InvalidRule f_InvalidBakery___init__ ka_InvalidBakery___init__ cc_InvalidBakery___init__ f_InvalidRule___init__ ka_InvalidRule___init__ cc_InvalidRule___init__ f_check_number f_check_amounts f_check_life f_check_bakery f_check_part f_Rule___init__ f_Rule_count_baked f_RefillRule___init__ f_RefillRule_count_baked f_SoldRule___init__ ka_SoldRule___init__ cc_SoldRule___init__ f_SoldRule_count_baked f_run f_outcome f__law_start f__law_drawn f__law_same f__law_outcome f__law_amounts f__law_sold f__law_closed f__law_rule f__law_days f__law_refused ka__law_refused tb__law_refused f_law : Addr} (X : K.In h) (G : h.Ns mainGlobals mg) (hfa : mg "law" = some (.ref fa))
    {tk_cv_Bakery_MAX_DAYS : Tok}
    {tk_cv_Bakery_MAX_LIFE : Tok}
    {tk_cn_Rule_KIND : Tok}
    {tk_cv_Rule_KIND : Tok}
    {tk_cn_RefillRule_KIND : Tok}
    {tk_cv_RefillRule_KIND : Tok}
    {tk_cn_SoldRule_KIND : Tok}
    {tk_cv_SoldRule_KIND : Tok}
    {t_MOST_LOAVES : Tok}
    {t_MOST_RULE_DAYS : Tok}
    {od_InvalidBakery___init__ an_InvalidBakery___init__ : Option Addr} {sl_InvalidBakery___init__ : Array (Option Value)} {oc_InvalidBakery___init__ kV_InvalidBakery___init__ dc_InvalidBakery___init__ pm_InvalidBakery___init__ ct_InvalidBakery___init__ : Value}
    {oe_InvalidBakery___init__ ol_InvalidBakery___init__ : Value} {oo_InvalidBakery___init__ om_InvalidBakery___init__ : Option Addr} {vc_InvalidBakery___init__ : Array Value} {os_InvalidBakery___init__ ot_InvalidBakery___init__ : Array (Option Value)} {file_InvalidBakery___init__ : Str} {tf_InvalidBakery___init__ : Tok}
    {nm_InvalidBakery q_InvalidBakery : Str} {N_InvalidBakery : Addr} {bs_InvalidBakery bm_InvalidBakery : List Value} {sn_InvalidBakery : List Str} {sub_InvalidBakery : List Value} {ab_InvalidBakery : Bool} {col_InvalidBakery : Option Bool} {dd_InvalidBakery : Option Addr} {m0_InvalidBakery m1_InvalidBakery m2_InvalidBakery m3_InvalidBakery m5_InvalidBakery : Option Value}
    {od_InvalidRule___init__ an_InvalidRule___init__ : Option Addr} {sl_InvalidRule___init__ : Array (Option Value)} {oc_InvalidRule___init__ kV_InvalidRule___init__ dc_InvalidRule___init__ pm_InvalidRule___init__ ct_InvalidRule___init__ : Value}
    {oe_InvalidRule___init__ ol_InvalidRule___init__ : Value} {oo_InvalidRule___init__ om_InvalidRule___init__ : Option Addr} {vc_InvalidRule___init__ : Array Value} {os_InvalidRule___init__ ot_InvalidRule___init__ : Array (Option Value)} {file_InvalidRule___init__ : Str} {tf_InvalidRule___init__ : Tok}
    {nm_InvalidRule q_InvalidRule : Str} {N_InvalidRule : Addr} {bs_InvalidRule bm_InvalidRule : List Value} {sn_InvalidRule : List Str} {sub_InvalidRule : List Value} {ab_InvalidRule : Bool} {col_InvalidRule : Option Bool} {dd_InvalidRule : Option Addr} {m0_InvalidRule m1_InvalidRule m2_InvalidRule m3_InvalidRule m5_InvalidRule : Option Value}
    {od_check_number an_check_number : Option Addr} {sl_check_number : Array (Option Value)} {oc_check_number kV_check_number dc_check_number pm_check_number cd_check_number ct_check_number : Value}
    {od_check_amounts an_check_amounts : Option Addr} {sl_check_amounts : Array (Option Value)} {oc_check_amounts kV_check_amounts dc_check_amounts pm_check_amounts cd_check_amounts ct_check_amounts : Value}
    {od_check_life an_check_life : Option Addr} {sl_check_life : Array (Option Value)} {oc_check_life kV_check_life dc_check_life pm_check_life cd_check_life ct_check_life : Value}
    {od_check_bakery an_check_bakery : Option Addr} {sl_check_bakery : Array (Option Value)} {oc_check_bakery kV_check_bakery dc_check_bakery pm_check_bakery cd_check_bakery ct_check_bakery : Value}
    {od_check_part an_check_part : Option Addr} {sl_check_part : Array (Option Value)} {oc_check_part kV_check_part dc_check_part pm_check_part cd_check_part ct_check_part : Value}
    {od_Rule___init__ an_Rule___init__ : Option Addr} {sl_Rule___init__ : Array (Option Value)} {oc_Rule___init__ kV_Rule___init__ dc_Rule___init__ pm_Rule___init__ cd_Rule___init__ ct_Rule___init__ : Value}
    {od_Rule_count_baked an_Rule_count_baked : Option Addr} {sl_Rule_count_baked : Array (Option Value)} {oc_Rule_count_baked kV_Rule_count_baked dc_Rule_count_baked pm_Rule_count_baked cd_Rule_count_baked ct_Rule_count_baked : Value}
    {od_RefillRule___init__ an_RefillRule___init__ : Option Addr} {sl_RefillRule___init__ : Array (Option Value)} {oc_RefillRule___init__ kV_RefillRule___init__ dc_RefillRule___init__ pm_RefillRule___init__ cd_RefillRule___init__ ct_RefillRule___init__ : Value}
    {od_RefillRule_count_baked an_RefillRule_count_baked : Option Addr} {sl_RefillRule_count_baked : Array (Option Value)} {oc_RefillRule_count_baked kV_RefillRule_count_baked dc_RefillRule_count_baked pm_RefillRule_count_baked cd_RefillRule_count_baked ct_RefillRule_count_baked : Value}
    {od_SoldRule___init__ an_SoldRule___init__ : Option Addr} {sl_SoldRule___init__ : Array (Option Value)} {oc_SoldRule___init__ kV_SoldRule___init__ dc_SoldRule___init__ pm_SoldRule___init__ ct_SoldRule___init__ : Value}
    {oe_SoldRule___init__ ol_SoldRule___init__ : Value} {oo_SoldRule___init__ om_SoldRule___init__ : Option Addr} {vc_SoldRule___init__ : Array Value} {os_SoldRule___init__ ot_SoldRule___init__ : Array (Option Value)} {file_SoldRule___init__ : Str} {tf_SoldRule___init__ : Tok}
    {od_SoldRule_count_baked an_SoldRule_count_baked : Option Addr} {sl_SoldRule_count_baked : Array (Option Value)} {oc_SoldRule_count_baked kV_SoldRule_count_baked dc_SoldRule_count_baked pm_SoldRule_count_baked cd_SoldRule_count_baked ct_SoldRule_count_baked : Value}
    {od_run an_run : Option Addr} {sl_run : Array (Option Value)} {oc_run kV_run dc_run pm_run cd_run ct_run : Value}
    {od_outcome an_outcome : Option Addr} {sl_outcome : Array (Option Value)} {oc_outcome kV_outcome dc_outcome pm_outcome cd_outcome ct_outcome : Value}
    {od__law_start an__law_start : Option Addr} {sl__law_start : Array (Option Value)} {oc__law_start kV__law_start dc__law_start pm__law_start cd__law_start ct__law_start : Value}
    {od__law_drawn an__law_drawn : Option Addr} {sl__law_drawn : Array (Option Value)} {oc__law_drawn kV__law_drawn dc__law_drawn pm__law_drawn cd__law_drawn ct__law_drawn : Value}
    {od__law_same an__law_same : Option Addr} {sl__law_same : Array (Option Value)} {oc__law_same kV__law_same dc__law_same pm__law_same cd__law_same ct__law_same : Value}
    {od__law_outcome an__law_outcome : Option Addr} {sl__law_outcome : Array (Option Value)} {oc__law_outcome kV__law_outcome dc__law_outcome pm__law_outcome cd__law_outcome ct__law_outcome : Value}
    {od__law_amounts an__law_amounts : Option Addr} {sl__law_amounts : Array (Option Value)} {oc__law_amounts kV__law_amounts dc__law_amounts pm__law_amounts cd__law_amounts ct__law_amounts : Value}
    {od__law_sold an__law_sold : Option Addr} {sl__law_sold : Array (Option Value)} {oc__law_sold kV__law_sold dc__law_sold pm__law_sold cd__law_sold ct__law_sold : Value}
    {od__law_closed an__law_closed : Option Addr} {sl__law_closed : Array (Option Value)} {oc__law_closed kV__law_closed dc__law_closed pm__law_closed cd__law_closed ct__law_closed : Value}
    {od__law_rule an__law_rule : Option Addr} {sl__law_rule : Array (Option Value)} {oc__law_rule kV__law_rule dc__law_rule pm__law_rule cd__law_rule ct__law_rule : Value}
    {od__law_days an__law_days : Option Addr} {sl__law_days : Array (Option Value)} {oc__law_days kV__law_days dc__law_days pm__law_days cd__law_days ct__law_days : Value}
    {od__law_refused an__law_refused : Option Addr} {sl__law_refused : Array (Option Value)} {oc__law_refused kV__law_refused dc__law_refused pm__law_refused ct__law_refused : Value}
    {oe__law_refused : Value} {oo__law_refused : Option Addr} {vc__law_refused : Array Value} {os__law_refused : Array (Option Value)}
    {od_law an_law : Option Addr} {sl_law : Array (Option Value)} {oc_law kV_law dc_law pm_law cd_law ct_law : Value}
    (g_Bakery : PySem.W.nsIn K mainGlobals "Bakery" = some (some (.ref c_Bakery)))
    (pg_Bakery : PySem.W.plainGet K c_Bakery Str.empty = true)
    (hd_Bakery : PySem.W.hasDictIn K c_Bakery = true)
    (po_Bakery : PySem.W.plainOver K c_Bakery = true)
    (sa_Bakery : PySem.W.findIn K (.ref c_Bakery) "__setattr__" = some (some (.builtin "object.__setattr__")))
    (g_Rule : PySem.W.nsIn K mainGlobals "Rule" = some (some (.ref c_Rule)))
    (pg_Rule : PySem.W.plainGet K c_Rule Str.empty = true)
    (hd_Rule : PySem.W.hasDictIn K c_Rule = true)
    (po_Rule : PySem.W.plainOver K c_Rule = true)
    (sa_Rule : PySem.W.findIn K (.ref c_Rule) "__setattr__" = some (some (.builtin "object.__setattr__")))
    (mk_Rule : PySem.W.makesIn K c_Rule = true)
    (kc_Rule : PySem.W.keepIn K (.ref c_Rule) = true)
    (g_RefillRule : PySem.W.nsIn K mainGlobals "RefillRule" = some (some (.ref c_RefillRule)))
    (pg_RefillRule : PySem.W.plainGet K c_RefillRule Str.empty = true)
    (hd_RefillRule : PySem.W.hasDictIn K c_RefillRule = true)
    (po_RefillRule : PySem.W.plainOver K c_RefillRule = true)
    (sa_RefillRule : PySem.W.findIn K (.ref c_RefillRule) "__setattr__" = some (some (.builtin "object.__setattr__")))
    (mk_RefillRule : PySem.W.makesIn K c_RefillRule = true)
    (kc_RefillRule : PySem.W.keepIn K (.ref c_RefillRule) = true)
    (g_SoldRule : PySem.W.nsIn K mainGlobals "SoldRule" = some (some (.ref c_SoldRule)))
    (pg_SoldRule : PySem.W.plainGet K c_SoldRule Str.empty = true)
    (hd_SoldRule : PySem.W.hasDictIn K c_SoldRule = true)
    (po_SoldRule : PySem.W.plainOver K c_SoldRule = true)
    (sa_SoldRule : PySem.W.findIn K (.ref c_SoldRule) "__setattr__" = some (some (.builtin "object.__setattr__")))
    (mk_SoldRule : PySem.W.makesIn K c_SoldRule = true)
    (kc_SoldRule : PySem.W.keepIn K (.ref c_SoldRule) = true)
    (rd_Bakery : PySem.W.readsIn K c_Bakery (.type "type") = true)
    (gt_Bakery : PySem.W.specialIn K (.ref c_Bakery) "__getattribute__" = some (some (.builtin "type.__getattribute__")))
    (cv_Bakery_MAX_DAYS : PySem.W.findCls K (.ref c_Bakery) (.type "type") "MAX_DAYS" = some (.val (.int 24 tk_cv_Bakery_MAX_DAYS)))
    (cv_Bakery_MAX_LIFE : PySem.W.findCls K (.ref c_Bakery) (.type "type") "MAX_LIFE" = some (.val (.int 30 tk_cv_Bakery_MAX_LIFE)))
    (na_Rule__amount : PySem.W.findIn K (.ref c_Rule) "_amount" = some none)
    (cn_Rule_KIND : PySem.W.findIn K (.ref c_Rule) "KIND" = some (some (.str "fixed" tk_cn_Rule_KIND)))
    (sp_cn_Rule_KIND : PySem.W.specialIn K (.str "fixed" tk_cn_Rule_KIND) "__get__" = some none)
    (rd_Rule : PySem.W.readsIn K c_Rule (.type "type") = true)
    (gt_Rule : PySem.W.specialIn K (.ref c_Rule) "__getattribute__" = some (some (.builtin "type.__getattribute__")))
    (cv_Rule_KIND : PySem.W.findCls K (.ref c_Rule) (.type "type") "KIND" = some (.val (.str "fixed" tk_cv_Rule_KIND)))
    (na_RefillRule__goal : PySem.W.findIn K (.ref c_RefillRule) "_goal" = some none)
    (cn_RefillRule_KIND : PySem.W.findIn K (.ref c_RefillRule) "KIND" = some (some (.str "refill" tk_cn_RefillRule_KIND)))
    (sp_cn_RefillRule_KIND : PySem.W.specialIn K (.str "refill" tk_cn_RefillRule_KIND) "__get__" = some none)
    (rd_RefillRule : PySem.W.readsIn K c_RefillRule (.type "type") = true)
    (gt_RefillRule : PySem.W.specialIn K (.ref c_RefillRule) "__getattribute__" = some (some (.builtin "type.__getattribute__")))
    (cv_RefillRule_KIND : PySem.W.findCls K (.ref c_RefillRule) (.type "type") "KIND" = some (.val (.str "refill" tk_cv_RefillRule_KIND)))
    (na_SoldRule__more : PySem.W.findIn K (.ref c_SoldRule) "_more" = some none)
    (na_SoldRule__amount : PySem.W.findIn K (.ref c_SoldRule) "_amount" = some none)
    (cn_SoldRule_KIND : PySem.W.findIn K (.ref c_SoldRule) "KIND" = some (some (.str "sold" tk_cn_SoldRule_KIND)))
    (sp_cn_SoldRule_KIND : PySem.W.specialIn K (.str "sold" tk_cn_SoldRule_KIND) "__get__" = some none)
    (rd_SoldRule : PySem.W.readsIn K c_SoldRule (.type "type") = true)
    (gt_SoldRule : PySem.W.specialIn K (.ref c_SoldRule) "__getattribute__" = some (some (.builtin "type.__getattribute__")))
    (cv_SoldRule_KIND : PySem.W.findCls K (.ref c_SoldRule) (.type "type") "KIND" = some (.val (.str "sold" tk_cv_SoldRule_KIND)))
    (g_MOST_LOAVES : PySem.W.nsIn K mainGlobals "MOST_LOAVES" = some (some (.int 1000000000 t_MOST_LOAVES)))
    (g_MOST_RULE_DAYS : PySem.W.nsIn K mainGlobals "MOST_RULE_DAYS" = some (some (.int 10000 t_MOST_RULE_DAYS)))
    (b_bool : PySem.W.nsIn K mainGlobals "bool" = some none)
    (b_enumerate : PySem.W.nsIn K mainGlobals "enumerate" = some none)
    (b_int : PySem.W.nsIn K mainGlobals "int" = some none)
    (b_isinstance : PySem.W.nsIn K mainGlobals "isinstance" = some none)
    (b_len : PySem.W.nsIn K mainGlobals "len" = some none)
    (b_list : PySem.W.nsIn K mainGlobals "list" = some none)
    (b_max : PySem.W.nsIn K mainGlobals "max" = some none)
    (b_min : PySem.W.nsIn K mainGlobals "min" = some none)
    (b_range : PySem.W.nsIn K mainGlobals "range" = some none)
    (b_sum : PySem.W.nsIn K mainGlobals "sum" = some none)
    (b_super : PySem.W.nsIn K mainGlobals "super" = some none)
    (b_tuple : PySem.W.nsIn K mainGlobals "tuple" = some none)
    (b_zip : PySem.W.nsIn K mainGlobals "zip" = some none)
    (g_LoafError : PySem.W.nsIn K mainGlobals "LoafError" = some (some (.ref c_LoafError)))
    (g_InvalidBakery : PySem.W.nsIn K mainGlobals "InvalidBakery" = some (some (.ref c_InvalidBakery)))
    (g_InvalidNumber : PySem.W.nsIn K mainGlobals "InvalidNumber" = some (some (.ref c_InvalidNumber)))
    (g_InvalidRule : PySem.W.nsIn K mainGlobals "InvalidRule" = some (some (.ref c_InvalidRule)))
    (xe_base : PySem.W.subIn K (.ref c_LoafError) (.type "BaseException") = some true)
    (xe_dict : PySem.W.hasDictIn K c_LoafError = true)
    (xe_type : PySem.W.typeIn K (.ref c_LoafError) = some (.type "type"))
    (xe_any : PySem.W.nsIn K cStatics "thirdparty.any" = some none)
    (xe_top : (l.prog.main.scope.names.lookup ("super" : Str)).isSome = false)
    (xe_cg : PySem.W.specialIn K (.builtin "object.__class__") "__get__" = some (some (.builtin "getset_descriptor.__get__")))
    (xe_ct : PySem.W.takesIn K (.builtin "object.__class__") = some true)
    (xp_InvalidNumber : PySem.W.excIn K c_InvalidNumber [.type "ValueError", .type "Exception", .type "BaseException", .type "object"] "ValueError.__new__" = true)
    (xq_InvalidNumber : PySem.W.keepIn K (.ref c_InvalidNumber) = true)
    (xb_InvalidNumber : PySem.W.subIn K (.ref c_InvalidNumber) (.type "BaseException") = some true)
    (xy_InvalidNumber : PySem.W.typeIn K (.ref c_InvalidNumber) = some (.type "type"))
    (xv_InvalidNumber : PySem.W.kitOne K (.ref c_InvalidNumber) (.type "ValueError") = some true)
    (xk_InvalidNumber_InvalidBakery : PySem.W.kitOne K (.ref c_InvalidNumber) (.ref c_InvalidBakery) = some false)
    (xk_InvalidNumber_InvalidNumber : PySem.W.kitOne K (.ref c_InvalidNumber) (.ref c_InvalidNumber) = some true)
    (xk_InvalidNumber_InvalidRule : PySem.W.kitOne K (.ref c_InvalidNumber) (.ref c_InvalidRule) = some false)
    (xhd_InvalidNumber : PySem.W.hasDictIn K c_InvalidNumber = true)
    (xic_InvalidNumber : PySem.W.isClsIn K c_InvalidNumber = true)
    (xga_InvalidNumber : PySem.W.findIn K (.ref c_InvalidNumber) "__getattribute__" = some (some (.builtin "BaseException.__getattribute__")))
    (xgg_InvalidNumber : PySem.W.findIn K (.ref c_InvalidNumber) "__getattr__" = some none)
    (xca_InvalidNumber : PySem.W.findIn K (.ref c_InvalidNumber) "__class__" = some (some (.builtin "object.__class__")))
    (xmo_InvalidNumber : PySem.W.mroIn K c_InvalidNumber (.type "object") = some true)
    (sL_InvalidNumber : PySem.W.subIn K (.ref c_InvalidNumber) (.ref c_LoafError) = some true)
    (xL_InvalidBakery : K.lookup c_InvalidBakery = some (excClassObj nm_InvalidBakery q_InvalidBakery c_InvalidBakery N_InvalidBakery bs_InvalidBakery bm_InvalidBakery true sn_InvalidBakery sub_InvalidBakery ab_InvalidBakery col_InvalidBakery dd_InvalidBakery m0_InvalidBakery m1_InvalidBakery m2_InvalidBakery m3_InvalidBakery m5_InvalidBakery "ValueError.__new__"))
    (xr_InvalidBakery : PySem.HandSPX.refsVE bm_InvalidBakery = true)
    (xsa_InvalidBakery : PySem.W.findIn K (.ref c_InvalidBakery) "__setattr__" = some (some (.builtin "object.__setattr__")))
    (xkC_InvalidBakery : PySem.W.keepIn K (.ref c_InvalidBakery) = true)
    (xeC_InvalidBakery : PySem.W.subIn K (.ref c_InvalidBakery) (.type "BaseException") = some true)
    (xtC_InvalidBakery : PySem.W.typeIn K (.ref c_InvalidBakery) = some (.type "type"))
    (xhd_InvalidBakery : PySem.W.hasDictIn K c_InvalidBakery = true)
    (xic_InvalidBakery : PySem.W.isClsIn K c_InvalidBakery = true)
    (xga_InvalidBakery : PySem.W.findIn K (.ref c_InvalidBakery) "__getattribute__" = some (some (.builtin "BaseException.__getattribute__")))
    (xgg_InvalidBakery : PySem.W.findIn K (.ref c_InvalidBakery) "__getattr__" = some none)
    (xca_InvalidBakery : PySem.W.findIn K (.ref c_InvalidBakery) "__class__" = some (some (.builtin "object.__class__")))
    (xmo_InvalidBakery : PySem.W.mroIn K c_InvalidBakery (.type "object") = some true)
    (xi_InvalidBakery : PySem.W.findIn K (.ref c_InvalidBakery) "__init__" = some (some (.ref f_InvalidBakery___init__)))
    (xt_InvalidBakery : PySem.W.typeIn K (.ref f_InvalidBakery___init__) = some (.type "function"))
    (l_InvalidBakery___init__ : K.lookup f_InvalidBakery___init__ = some ⟨oc_InvalidBakery___init__, od_InvalidBakery___init__, .func (PySem.W.ksFn "__init__" "InvalidBakery.__init__" (defArgs s_InvalidBakery___init__) (defBody s_InvalidBakery___init__) (defScope s_InvalidBakery___init__) .none kV_InvalidBakery___init__ dc_InvalidBakery___init__ pm_InvalidBakery___init__ an_InvalidBakery___init__ (.ref ka_InvalidBakery___init__) ct_InvalidBakery___init__ cc_InvalidBakery___init__), sl_InvalidBakery___init__⟩)
    (q_InvalidBakery___init__ : PySem.W.codeIn K (.ref ka_InvalidBakery___init__) "InvalidBakery.__init__" = true)
    (lk_InvalidBakery___init__ : K.lookup ka_InvalidBakery___init__ = some ⟨oe_InvalidBakery___init__, oo_InvalidBakery___init__, .fields vc_InvalidBakery___init__, os_InvalidBakery___init__⟩)
    (vf_InvalidBakery___init__ : vc_InvalidBakery___init__[2]? = some (.str file_InvalidBakery___init__ tf_InvalidBakery___init__))
    (fi_InvalidBakery___init__ : ((l.prog.main.file : Str) == file_InvalidBakery___init__) = true)
    (ce_InvalidBakery___init__ : K.lookup cc_InvalidBakery___init__ = some ⟨ol_InvalidBakery___init__, om_InvalidBakery___init__, .cell (some (.ref c_InvalidBakery)), ot_InvalidBakery___init__⟩)
    (su_InvalidBakery___init__ : PySem.W.ks_superIn K c_InvalidBakery c_InvalidBakery "__init__" = some (some (.builtin "ValueError.__init__")))
    (sb_InvalidBakery___init__ : PySem.W.mroIn K c_InvalidBakery (.ref c_InvalidBakery) = some true)
    (sv_InvalidBakery___init__ : PySem.W.subIn K (.ref c_InvalidBakery) (.type "ValueError") = some true)
    (sL_InvalidBakery___init__ : PySem.W.subIn K (.ref c_InvalidBakery) (.ref c_LoafError) = some true)
    (xv_InvalidBakery : PySem.W.kitOne K (.ref c_InvalidBakery) (.type "ValueError") = some true)
    (xk_InvalidBakery_InvalidBakery : PySem.W.kitOne K (.ref c_InvalidBakery) (.ref c_InvalidBakery) = some true)
    (xk_InvalidBakery_InvalidNumber : PySem.W.kitOne K (.ref c_InvalidBakery) (.ref c_InvalidNumber) = some false)
    (xk_InvalidBakery_InvalidRule : PySem.W.kitOne K (.ref c_InvalidBakery) (.ref c_InvalidRule) = some false)
    (na_InvalidBakery_part : PySem.W.findIn K (.ref c_InvalidBakery) "part" = some none)
    (na_InvalidBakery_index : PySem.W.findIn K (.ref c_InvalidBakery) "index" = some none)
    (xL_InvalidRule : K.lookup c_InvalidRule = some (excClassObj nm_InvalidRule q_InvalidRule c_InvalidRule N_InvalidRule bs_InvalidRule bm_InvalidRule true sn_InvalidRule sub_InvalidRule ab_InvalidRule col_InvalidRule dd_InvalidRule m0_InvalidRule m1_InvalidRule m2_InvalidRule m3_InvalidRule m5_InvalidRule "ValueError.__new__"))
    (xr_InvalidRule : PySem.HandSPX.refsVE bm_InvalidRule = true)
    (xsa_InvalidRule : PySem.W.findIn K (.ref c_InvalidRule) "__setattr__" = some (some (.builtin "object.__setattr__")))
    (xkC_InvalidRule : PySem.W.keepIn K (.ref c_InvalidRule) = true)
    (xeC_InvalidRule : PySem.W.subIn K (.ref c_InvalidRule) (.type "BaseException") = some true)
    (xtC_InvalidRule : PySem.W.typeIn K (.ref c_InvalidRule) = some (.type "type"))
    (xhd_InvalidRule : PySem.W.hasDictIn K c_InvalidRule = true)
    (xic_InvalidRule : PySem.W.isClsIn K c_InvalidRule = true)
    (xga_InvalidRule : PySem.W.findIn K (.ref c_InvalidRule) "__getattribute__" = some (some (.builtin "BaseException.__getattribute__")))
    (xgg_InvalidRule : PySem.W.findIn K (.ref c_InvalidRule) "__getattr__" = some none)
    (xca_InvalidRule : PySem.W.findIn K (.ref c_InvalidRule) "__class__" = some (some (.builtin "object.__class__")))
    (xmo_InvalidRule : PySem.W.mroIn K c_InvalidRule (.type "object") = some true)
    (xi_InvalidRule : PySem.W.findIn K (.ref c_InvalidRule) "__init__" = some (some (.ref f_InvalidRule___init__)))
    (xt_InvalidRule : PySem.W.typeIn K (.ref f_InvalidRule___init__) = some (.type "function"))
    (l_InvalidRule___init__ : K.lookup f_InvalidRule___init__ = some ⟨oc_InvalidRule___init__, od_InvalidRule___init__, .func (PySem.W.ksFn "__init__" "InvalidRule.__init__" (defArgs s_InvalidRule___init__) (defBody s_InvalidRule___init__) (defScope s_InvalidRule___init__) .none kV_InvalidRule___init__ dc_InvalidRule___init__ pm_InvalidRule___init__ an_InvalidRule___init__ (.ref ka_InvalidRule___init__) ct_InvalidRule___init__ cc_InvalidRule___init__), sl_InvalidRule___init__⟩)
    (q_InvalidRule___init__ : PySem.W.codeIn K (.ref ka_InvalidRule___init__) "InvalidRule.__init__" = true)
    (lk_InvalidRule___init__ : K.lookup ka_InvalidRule___init__ = some ⟨oe_InvalidRule___init__, oo_InvalidRule___init__, .fields vc_InvalidRule___init__, os_InvalidRule___init__⟩)
    (vf_InvalidRule___init__ : vc_InvalidRule___init__[2]? = some (.str file_InvalidRule___init__ tf_InvalidRule___init__))
    (fi_InvalidRule___init__ : ((l.prog.main.file : Str) == file_InvalidRule___init__) = true)
    (ce_InvalidRule___init__ : K.lookup cc_InvalidRule___init__ = some ⟨ol_InvalidRule___init__, om_InvalidRule___init__, .cell (some (.ref c_InvalidRule)), ot_InvalidRule___init__⟩)
    (su_InvalidRule___init__ : PySem.W.ks_superIn K c_InvalidRule c_InvalidRule "__init__" = some (some (.builtin "ValueError.__init__")))
    (sb_InvalidRule___init__ : PySem.W.mroIn K c_InvalidRule (.ref c_InvalidRule) = some true)
    (sv_InvalidRule___init__ : PySem.W.subIn K (.ref c_InvalidRule) (.type "ValueError") = some true)
    (sL_InvalidRule___init__ : PySem.W.subIn K (.ref c_InvalidRule) (.ref c_LoafError) = some true)
    (xv_InvalidRule : PySem.W.kitOne K (.ref c_InvalidRule) (.type "ValueError") = some true)
    (xk_InvalidRule_InvalidBakery : PySem.W.kitOne K (.ref c_InvalidRule) (.ref c_InvalidBakery) = some false)
    (xk_InvalidRule_InvalidNumber : PySem.W.kitOne K (.ref c_InvalidRule) (.ref c_InvalidNumber) = some false)
    (xk_InvalidRule_InvalidRule : PySem.W.kitOne K (.ref c_InvalidRule) (.ref c_InvalidRule) = some true)
    (na_InvalidRule_part : PySem.W.findIn K (.ref c_InvalidRule) "part" = some none)
    (eb_InvalidBakery : PySem.W.subIn K (.ref c_InvalidBakery) (.type "BaseException") = some true)
    (ed_InvalidBakery : PySem.W.hasDictIn K c_InvalidBakery = true)
    (et_InvalidBakery : PySem.W.typeIn K (.ref c_InvalidBakery) = some (.type "type"))
    (eb_InvalidNumber : PySem.W.subIn K (.ref c_InvalidNumber) (.type "BaseException") = some true)
    (ed_InvalidNumber : PySem.W.hasDictIn K c_InvalidNumber = true)
    (et_InvalidNumber : PySem.W.typeIn K (.ref c_InvalidNumber) = some (.type "type"))
    (eb_InvalidRule : PySem.W.subIn K (.ref c_InvalidRule) (.type "BaseException") = some true)
    (ed_InvalidRule : PySem.W.hasDictIn K c_InvalidRule = true)
    (et_InvalidRule : PySem.W.typeIn K (.ref c_InvalidRule) = some (.type "type"))
    (es_InvalidBakery_InvalidBakery : PySem.W.subIn K (.ref c_InvalidBakery) (.ref c_InvalidBakery) = some true)
    (es_InvalidNumber_InvalidBakery : PySem.W.subIn K (.ref c_InvalidNumber) (.ref c_InvalidBakery) = some false)
    (es_InvalidNumber_InvalidNumber : PySem.W.subIn K (.ref c_InvalidNumber) (.ref c_InvalidNumber) = some true)
    (es_InvalidRule_InvalidBakery : PySem.W.subIn K (.ref c_InvalidRule) (.ref c_InvalidBakery) = some false)
    (es_InvalidRule_InvalidNumber : PySem.W.subIn K (.ref c_InvalidRule) (.ref c_InvalidNumber) = some false)
    (es_InvalidRule_InvalidRule : PySem.W.subIn K (.ref c_InvalidRule) (.ref c_InvalidRule) = some true)
    (xz_InvalidBakery : PySem.W.subIn K (.ref c_InvalidBakery) (.type "StopIteration") = some false)
    (xz_InvalidNumber : PySem.W.subIn K (.ref c_InvalidNumber) (.type "StopIteration") = some false)
    (xz_InvalidRule : PySem.W.subIn K (.ref c_InvalidRule) (.type "StopIteration") = some false)
    (wo_Rule : PySem.W.mroIn K c_Rule (.type "object") = some true)
    (xk_ownM_Rule : PySem.W.kitOne K (.ref c_Rule) (.ref c_Rule) = some true)
    (wc_Rule : PySem.W.findIn K (.ref c_Rule) "__class__" = some (some (.builtin "object.__class__")))
    (wo_RefillRule : PySem.W.mroIn K c_RefillRule (.type "object") = some true)
    (xk_ownM_RefillRule : PySem.W.kitOne K (.ref c_RefillRule) (.ref c_RefillRule) = some true)
    (wc_RefillRule : PySem.W.findIn K (.ref c_RefillRule) "__class__" = some (some (.builtin "object.__class__")))
    (wo_SoldRule : PySem.W.mroIn K c_SoldRule (.type "object") = some true)
    (xk_ownM_SoldRule : PySem.W.kitOne K (.ref c_SoldRule) (.ref c_SoldRule) = some true)
    (wc_SoldRule : PySem.W.findIn K (.ref c_SoldRule) "__class__" = some (some (.builtin "object.__class__")))
    (ik_RefillRule_Rule : PySem.W.kitOne K (.ref c_RefillRule) (.ref c_Rule) = some true)
    (ik_SoldRule_Rule : PySem.W.kitOne K (.ref c_SoldRule) (.ref c_Rule) = some true)
    (zu_any : PySem.W.nsIn K cStatics "thirdparty.any" = some none)
    (zu_top : (l.prog.main.scope.names.lookup ("super" : Str)).isSome = false)
    (a_check_number : PySem.W.nsIn K mainGlobals "check_number" = some (some (.ref f_check_number)))
    (l_check_number : K.lookup f_check_number = some ⟨oc_check_number, od_check_number, .func (PySem.W.fnOf "check_number" "check_number" (defArgs s_check_number) (defBody s_check_number) (defScope s_check_number) .none kV_check_number dc_check_number pm_check_number an_check_number cd_check_number ct_check_number), sl_check_number⟩)
    (q_check_number : PySem.W.codeIn K cd_check_number "check_number" = true)
    (k_check_number : PySem.W.keepIn K (.ref f_check_number) = true)
    (a_check_amounts : PySem.W.nsIn K mainGlobals "check_amounts" = some (some (.ref f_check_amounts)))
    (l_check_amounts : K.lookup f_check_amounts = some ⟨oc_check_amounts, od_check_amounts, .func (PySem.W.fnOf "check_amounts" "check_amounts" (defArgs s_check_amounts) (defBody s_check_amounts) (defScope s_check_amounts) .none kV_check_amounts dc_check_amounts pm_check_amounts an_check_amounts cd_check_amounts ct_check_amounts), sl_check_amounts⟩)
    (q_check_amounts : PySem.W.codeIn K cd_check_amounts "check_amounts" = true)
    (k_check_amounts : PySem.W.keepIn K (.ref f_check_amounts) = true)
    (a_check_life : PySem.W.nsIn K mainGlobals "check_life" = some (some (.ref f_check_life)))
    (l_check_life : K.lookup f_check_life = some ⟨oc_check_life, od_check_life, .func (PySem.W.fnOf "check_life" "check_life" (defArgs s_check_life) (defBody s_check_life) (defScope s_check_life) .none kV_check_life dc_check_life pm_check_life an_check_life cd_check_life ct_check_life), sl_check_life⟩)
    (q_check_life : PySem.W.codeIn K cd_check_life "check_life" = true)
    (k_check_life : PySem.W.keepIn K (.ref f_check_life) = true)
    (a_check_bakery : PySem.W.nsIn K mainGlobals "check_bakery" = some (some (.ref f_check_bakery)))
    (l_check_bakery : K.lookup f_check_bakery = some ⟨oc_check_bakery, od_check_bakery, .func (PySem.W.fnOf "check_bakery" "check_bakery" (defArgs s_check_bakery) (defBody s_check_bakery) (defScope s_check_bakery) .none kV_check_bakery dc_check_bakery pm_check_bakery an_check_bakery cd_check_bakery ct_check_bakery), sl_check_bakery⟩)
    (q_check_bakery : PySem.W.codeIn K cd_check_bakery "check_bakery" = true)
    (k_check_bakery : PySem.W.keepIn K (.ref f_check_bakery) = true)
    (a_check_part : PySem.W.nsIn K mainGlobals "check_part" = some (some (.ref f_check_part)))
    (l_check_part : K.lookup f_check_part = some ⟨oc_check_part, od_check_part, .func (PySem.W.fnOf "check_part" "check_part" (defArgs s_check_part) (defBody s_check_part) (defScope s_check_part) .none kV_check_part dc_check_part pm_check_part an_check_part cd_check_part ct_check_part), sl_check_part⟩)
    (q_check_part : PySem.W.codeIn K cd_check_part "check_part" = true)
    (k_check_part : PySem.W.keepIn K (.ref f_check_part) = true)
    (a_Rule___init__ : PySem.W.findIn K (.ref c_Rule) "__init__" = some (some (.ref f_Rule___init__)))
    (i_Rule___init__ : PySem.W.isFn K (.ref f_Rule___init__) = true)
    (l_Rule___init__ : K.lookup f_Rule___init__ = some ⟨oc_Rule___init__, od_Rule___init__, .func (PySem.W.fnOf "__init__" "Rule.__init__" (defArgs s_Rule___init__) (defBody s_Rule___init__) (defScope s_Rule___init__) .none kV_Rule___init__ dc_Rule___init__ pm_Rule___init__ an_Rule___init__ cd_Rule___init__ ct_Rule___init__), sl_Rule___init__⟩)
    (q_Rule___init__ : PySem.W.codeIn K cd_Rule___init__ "Rule.__init__" = true)
    (k_Rule___init__ : PySem.W.keepIn K (.ref f_Rule___init__) = true)
    (a_Rule_count_baked : PySem.W.findIn K (.ref c_Rule) "count_baked" = some (some (.ref f_Rule_count_baked)))
    (i_Rule_count_baked : PySem.W.isFn K (.ref f_Rule_count_baked) = true)
    (l_Rule_count_baked : K.lookup f_Rule_count_baked = some ⟨oc_Rule_count_baked, od_Rule_count_baked, .func (PySem.W.fnOf "count_baked" "Rule.count_baked" (defArgs s_Rule_count_baked) (defBody s_Rule_count_baked) (defScope s_Rule_count_baked) .none kV_Rule_count_baked dc_Rule_count_baked pm_Rule_count_baked an_Rule_count_baked cd_Rule_count_baked ct_Rule_count_baked), sl_Rule_count_baked⟩)
    (q_Rule_count_baked : PySem.W.codeIn K cd_Rule_count_baked "Rule.count_baked" = true)
    (k_Rule_count_baked : PySem.W.keepIn K (.ref f_Rule_count_baked) = true)
    (a_RefillRule___init__ : PySem.W.findIn K (.ref c_RefillRule) "__init__" = some (some (.ref f_RefillRule___init__)))
    (i_RefillRule___init__ : PySem.W.isFn K (.ref f_RefillRule___init__) = true)
    (l_RefillRule___init__ : K.lookup f_RefillRule___init__ = some ⟨oc_RefillRule___init__, od_RefillRule___init__, .func (PySem.W.fnOf "__init__" "RefillRule.__init__" (defArgs s_RefillRule___init__) (defBody s_RefillRule___init__) (defScope s_RefillRule___init__) .none kV_RefillRule___init__ dc_RefillRule___init__ pm_RefillRule___init__ an_RefillRule___init__ cd_RefillRule___init__ ct_RefillRule___init__), sl_RefillRule___init__⟩)
    (q_RefillRule___init__ : PySem.W.codeIn K cd_RefillRule___init__ "RefillRule.__init__" = true)
    (k_RefillRule___init__ : PySem.W.keepIn K (.ref f_RefillRule___init__) = true)
    (a_RefillRule_count_baked : PySem.W.findIn K (.ref c_RefillRule) "count_baked" = some (some (.ref f_RefillRule_count_baked)))
    (i_RefillRule_count_baked : PySem.W.isFn K (.ref f_RefillRule_count_baked) = true)
    (l_RefillRule_count_baked : K.lookup f_RefillRule_count_baked = some ⟨oc_RefillRule_count_baked, od_RefillRule_count_baked, .func (PySem.W.fnOf "count_baked" "RefillRule.count_baked" (defArgs s_RefillRule_count_baked) (defBody s_RefillRule_count_baked) (defScope s_RefillRule_count_baked) .none kV_RefillRule_count_baked dc_RefillRule_count_baked pm_RefillRule_count_baked an_RefillRule_count_baked cd_RefillRule_count_baked ct_RefillRule_count_baked), sl_RefillRule_count_baked⟩)
    (q_RefillRule_count_baked : PySem.W.codeIn K cd_RefillRule_count_baked "RefillRule.count_baked" = true)
    (k_RefillRule_count_baked : PySem.W.keepIn K (.ref f_RefillRule_count_baked) = true)
    (a_SoldRule___init__ : PySem.W.findIn K (.ref c_SoldRule) "__init__" = some (some (.ref f_SoldRule___init__)))
    (i_SoldRule___init__ : PySem.W.isFn K (.ref f_SoldRule___init__) = true)
    (l_SoldRule___init__ : K.lookup f_SoldRule___init__ = some ⟨oc_SoldRule___init__, od_SoldRule___init__, .func (PySem.W.ksFn "__init__" "SoldRule.__init__" (defArgs s_SoldRule___init__) (defBody s_SoldRule___init__) (defScope s_SoldRule___init__) .none kV_SoldRule___init__ dc_SoldRule___init__ pm_SoldRule___init__ an_SoldRule___init__ (.ref ka_SoldRule___init__) ct_SoldRule___init__ cc_SoldRule___init__), sl_SoldRule___init__⟩)
    (q_SoldRule___init__ : PySem.W.codeIn K (.ref ka_SoldRule___init__) "SoldRule.__init__" = true)
    (lk_SoldRule___init__ : K.lookup ka_SoldRule___init__ = some ⟨oe_SoldRule___init__, oo_SoldRule___init__, .fields vc_SoldRule___init__, os_SoldRule___init__⟩)
    (vf_SoldRule___init__ : vc_SoldRule___init__[2]? = some (.str file_SoldRule___init__ tf_SoldRule___init__))
    (fi_SoldRule___init__ : ((l.prog.main.file : Str) == file_SoldRule___init__) = true)
    (ce_SoldRule___init__ : K.lookup cc_SoldRule___init__ = some ⟨ol_SoldRule___init__, om_SoldRule___init__, .cell (some (.ref c_SoldRule)), ot_SoldRule___init__⟩)
    (sp_SoldRule___init__ : PySem.W.ks_superIn K c_SoldRule c_SoldRule "__init__" = some (some (.ref f_Rule___init__)))
    (sy_SoldRule___init__ : PySem.W.typeIn K (.ref f_Rule___init__) = some (.type "function"))
    (sf_SoldRule___init__ : PySem.W.fnIn K f_Rule___init__ = true)
    (sb_SoldRule___init__ : PySem.W.mroIn K c_SoldRule (.ref c_SoldRule) = some true)
    (sc_SoldRule : PySem.W.isClsIn K c_SoldRule = true)
    (a_SoldRule_count_baked : PySem.W.findIn K (.ref c_SoldRule) "count_baked" = some (some (.ref f_SoldRule_count_baked)))
    (i_SoldRule_count_baked : PySem.W.isFn K (.ref f_SoldRule_count_baked) = true)
    (l_SoldRule_count_baked : K.lookup f_SoldRule_count_baked = some ⟨oc_SoldRule_count_baked, od_SoldRule_count_baked, .func (PySem.W.fnOf "count_baked" "SoldRule.count_baked" (defArgs s_SoldRule_count_baked) (defBody s_SoldRule_count_baked) (defScope s_SoldRule_count_baked) .none kV_SoldRule_count_baked dc_SoldRule_count_baked pm_SoldRule_count_baked an_SoldRule_count_baked cd_SoldRule_count_baked ct_SoldRule_count_baked), sl_SoldRule_count_baked⟩)
    (q_SoldRule_count_baked : PySem.W.codeIn K cd_SoldRule_count_baked "SoldRule.count_baked" = true)
    (k_SoldRule_count_baked : PySem.W.keepIn K (.ref f_SoldRule_count_baked) = true)
    (a_run : PySem.W.nsIn K mainGlobals "run" = some (some (.ref f_run)))
    (l_run : K.lookup f_run = some ⟨oc_run, od_run, .func (PySem.W.fnOf "run" "run" (defArgs s_run) (defBody s_run) (defScope s_run) .none kV_run dc_run pm_run an_run cd_run ct_run), sl_run⟩)
    (q_run : PySem.W.codeIn K cd_run "run" = true)
    (k_run : PySem.W.keepIn K (.ref f_run) = true)
    (a_outcome : PySem.W.nsIn K mainGlobals "outcome" = some (some (.ref f_outcome)))
    (l_outcome : K.lookup f_outcome = some ⟨oc_outcome, od_outcome, .func (PySem.W.fnOf "outcome" "outcome" (defArgs s_outcome) (defBody s_outcome) (defScope s_outcome) .none kV_outcome dc_outcome pm_outcome an_outcome cd_outcome ct_outcome), sl_outcome⟩)
    (q_outcome : PySem.W.codeIn K cd_outcome "outcome" = true)
    (k_outcome : PySem.W.keepIn K (.ref f_outcome) = true)
    (a__law_start : PySem.W.nsIn K mainGlobals "_law_start" = some (some (.ref f__law_start)))
    (l__law_start : K.lookup f__law_start = some ⟨oc__law_start, od__law_start, .func (PySem.W.fnOf "_law_start" "_law_start" (defArgs s__law_start) (defBody s__law_start) (defScope s__law_start) .none kV__law_start dc__law_start pm__law_start an__law_start cd__law_start ct__law_start), sl__law_start⟩)
    (q__law_start : PySem.W.codeIn K cd__law_start "_law_start" = true)
    (k__law_start : PySem.W.keepIn K (.ref f__law_start) = true)
    (a__law_drawn : PySem.W.nsIn K mainGlobals "_law_drawn" = some (some (.ref f__law_drawn)))
    (l__law_drawn : K.lookup f__law_drawn = some ⟨oc__law_drawn, od__law_drawn, .func (PySem.W.fnOf "_law_drawn" "_law_drawn" (defArgs s__law_drawn) (defBody s__law_drawn) (defScope s__law_drawn) .none kV__law_drawn dc__law_drawn pm__law_drawn an__law_drawn cd__law_drawn ct__law_drawn), sl__law_drawn⟩)
    (q__law_drawn : PySem.W.codeIn K cd__law_drawn "_law_drawn" = true)
    (k__law_drawn : PySem.W.keepIn K (.ref f__law_drawn) = true)
    (a__law_same : PySem.W.nsIn K mainGlobals "_law_same" = some (some (.ref f__law_same)))
    (l__law_same : K.lookup f__law_same = some ⟨oc__law_same, od__law_same, .func (PySem.W.fnOf "_law_same" "_law_same" (defArgs s__law_same) (defBody s__law_same) (defScope s__law_same) .none kV__law_same dc__law_same pm__law_same an__law_same cd__law_same ct__law_same), sl__law_same⟩)
    (q__law_same : PySem.W.codeIn K cd__law_same "_law_same" = true)
    (k__law_same : PySem.W.keepIn K (.ref f__law_same) = true)
    (a__law_outcome : PySem.W.nsIn K mainGlobals "_law_outcome" = some (some (.ref f__law_outcome)))
    (l__law_outcome : K.lookup f__law_outcome = some ⟨oc__law_outcome, od__law_outcome, .func (PySem.W.fnOf "_law_outcome" "_law_outcome" (defArgs s__law_outcome) (defBody s__law_outcome) (defScope s__law_outcome) .none kV__law_outcome dc__law_outcome pm__law_outcome an__law_outcome cd__law_outcome ct__law_outcome), sl__law_outcome⟩)
    (q__law_outcome : PySem.W.codeIn K cd__law_outcome "_law_outcome" = true)
    (k__law_outcome : PySem.W.keepIn K (.ref f__law_outcome) = true)
    (a__law_amounts : PySem.W.nsIn K mainGlobals "_law_amounts" = some (some (.ref f__law_amounts)))
    (l__law_amounts : K.lookup f__law_amounts = some ⟨oc__law_amounts, od__law_amounts, .func (PySem.W.fnOf "_law_amounts" "_law_amounts" (defArgs s__law_amounts) (defBody s__law_amounts) (defScope s__law_amounts) .none kV__law_amounts dc__law_amounts pm__law_amounts an__law_amounts cd__law_amounts ct__law_amounts), sl__law_amounts⟩)
    (q__law_amounts : PySem.W.codeIn K cd__law_amounts "_law_amounts" = true)
    (k__law_amounts : PySem.W.keepIn K (.ref f__law_amounts) = true)
    (a__law_sold : PySem.W.nsIn K mainGlobals "_law_sold" = some (some (.ref f__law_sold)))
    (l__law_sold : K.lookup f__law_sold = some ⟨oc__law_sold, od__law_sold, .func (PySem.W.fnOf "_law_sold" "_law_sold" (defArgs s__law_sold) (defBody s__law_sold) (defScope s__law_sold) .none kV__law_sold dc__law_sold pm__law_sold an__law_sold cd__law_sold ct__law_sold), sl__law_sold⟩)
    (q__law_sold : PySem.W.codeIn K cd__law_sold "_law_sold" = true)
    (k__law_sold : PySem.W.keepIn K (.ref f__law_sold) = true)
    (a__law_closed : PySem.W.nsIn K mainGlobals "_law_closed" = some (some (.ref f__law_closed)))
    (l__law_closed : K.lookup f__law_closed = some ⟨oc__law_closed, od__law_closed, .func (PySem.W.fnOf "_law_closed" "_law_closed" (defArgs s__law_closed) (defBody s__law_closed) (defScope s__law_closed) .none kV__law_closed dc__law_closed pm__law_closed an__law_closed cd__law_closed ct__law_closed), sl__law_closed⟩)
    (q__law_closed : PySem.W.codeIn K cd__law_closed "_law_closed" = true)
    (k__law_closed : PySem.W.keepIn K (.ref f__law_closed) = true)
    (a__law_rule : PySem.W.nsIn K mainGlobals "_law_rule" = some (some (.ref f__law_rule)))
    (l__law_rule : K.lookup f__law_rule = some ⟨oc__law_rule, od__law_rule, .func (PySem.W.fnOf "_law_rule" "_law_rule" (defArgs s__law_rule) (defBody s__law_rule) (defScope s__law_rule) .none kV__law_rule dc__law_rule pm__law_rule an__law_rule cd__law_rule ct__law_rule), sl__law_rule⟩)
    (q__law_rule : PySem.W.codeIn K cd__law_rule "_law_rule" = true)
    (k__law_rule : PySem.W.keepIn K (.ref f__law_rule) = true)
    (a__law_days : PySem.W.nsIn K mainGlobals "_law_days" = some (some (.ref f__law_days)))
    (l__law_days : K.lookup f__law_days = some ⟨oc__law_days, od__law_days, .func (PySem.W.fnOf "_law_days" "_law_days" (defArgs s__law_days) (defBody s__law_days) (defScope s__law_days) .none kV__law_days dc__law_days pm__law_days an__law_days cd__law_days ct__law_days), sl__law_days⟩)
    (q__law_days : PySem.W.codeIn K cd__law_days "_law_days" = true)
    (k__law_days : PySem.W.keepIn K (.ref f__law_days) = true)
    (a__law_refused : PySem.W.nsIn K mainGlobals "_law_refused" = some (some (.ref f__law_refused)))
    (l__law_refused : K.lookup f__law_refused = some ⟨oc__law_refused, od__law_refused, .func (PySem.W.fnOf "_law_refused" "_law_refused" (defArgs s__law_refused) (defBody s__law_refused) (defScope s__law_refused) .none kV__law_refused dc__law_refused pm__law_refused an__law_refused (.ref ka__law_refused) ct__law_refused), sl__law_refused⟩)
    (q__law_refused : PySem.W.codeIn K (.ref ka__law_refused) "_law_refused" = true)
    (lc__law_refused : K.lookup ka__law_refused = some ⟨oe__law_refused, oo__law_refused, .fields vc__law_refused, os__law_refused⟩)
    (he__law_refused : vc__law_refused[11]? = some (.ref tb__law_refused))
    (ch__law_refused : PySem.W.codeHdIn K ka__law_refused tb__law_refused = true)
    (nt__law_refused : K.lookup tb__law_refused = none)
    (ht__law_refused : h.get? tb__law_refused = some { cls := .none, data := .fields #[] })
    (k__law_refused : PySem.W.keepIn K (.ref f__law_refused) = true)
    (a_law : PySem.W.nsIn K mainGlobals "law" = some (some (.ref f_law)))
    (l_law : K.lookup f_law = some ⟨oc_law, od_law, .func (PySem.W.fnOf "law" "law" (defArgs s_law) (defBody s_law) (defScope s_law) .none kV_law dc_law pm_law an_law cd_law ct_law), sl_law⟩)
    (q_law : PySem.W.codeIn K cd_law "law" = true)
    (k_law : PySem.W.keepIn K (.ref f_law) = true) :
    LamX.LawAtS l w K L2.CX0 14 63 "_law_script" mg fa h := by
  have e := hfa.symm.trans (PySem.W.mg_of X G a_law)
  cases e
  have B_InvalidBakery___init__ : Binds K (PySem.W.ksFn "__init__" "InvalidBakery.__init__" (defArgs s_InvalidBakery___init__) (defBody s_InvalidBakery___init__) (defScope s_InvalidBakery___init__) .none kV_InvalidBakery___init__ dc_InvalidBakery___init__ pm_InvalidBakery___init__ an_InvalidBakery___init__ (.ref ka_InvalidBakery___init__) ct_InvalidBakery___init__ cc_InvalidBakery___init__) p_InvalidBakery___init__ [] := Binds.all fun us hl => match us, hl with | [_, _, _], _ => rfl
  have B_InvalidRule___init__ : Binds K (PySem.W.ksFn "__init__" "InvalidRule.__init__" (defArgs s_InvalidRule___init__) (defBody s_InvalidRule___init__) (defScope s_InvalidRule___init__) .none kV_InvalidRule___init__ dc_InvalidRule___init__ pm_InvalidRule___init__ an_InvalidRule___init__ (.ref ka_InvalidRule___init__) ct_InvalidRule___init__ cc_InvalidRule___init__) p_InvalidRule___init__ [] := Binds.all fun us hl => match us, hl with | [_, _], _ => rfl
  have F_check_number := fun_mk (st := s_check_number) l_check_number q_check_number k_check_number
  have B_check_number := F_check_number.binds (ps := p_check_number) fun _ _ _ _ _ _ us hl => match us, hl with | [_, _, _], _ => rfl
  have F_check_amounts := fun_mk (st := s_check_amounts) l_check_amounts q_check_amounts k_check_amounts
  have B_check_amounts := F_check_amounts.binds (ps := p_check_amounts) fun _ _ _ _ _ _ us hl => match us, hl with | [_, _], _ => rfl
  have F_check_life := fun_mk (st := s_check_life) l_check_life q_check_life k_check_life
  have B_check_life := F_check_life.binds (ps := p_check_life) fun _ _ _ _ _ _ us hl => match us, hl with | [_], _ => rfl
  have F_check_bakery := fun_mk (st := s_check_bakery) l_check_bakery q_check_bakery k_check_bakery
  have B_check_bakery := F_check_bakery.binds (ps := p_check_bakery) fun _ _ _ _ _ _ us hl => match us, hl with | [_, _, _], _ => rfl
  have F_check_part := fun_mk (st := s_check_part) l_check_part q_check_part k_check_part
  have B_check_part := F_check_part.binds (ps := p_check_part) fun _ _ _ _ _ _ us hl => match us, hl with | [_, _, _], _ => rfl
  have F_Rule___init__ := fun_mk (st := s_Rule___init__) l_Rule___init__ q_Rule___init__ k_Rule___init__
  have B_Rule___init__ := F_Rule___init__.binds (ps := p_Rule___init__) fun _ _ _ _ _ _ us hl => match us, hl with | [_, _], _ => rfl
  have F_Rule_count_baked := fun_mk (st := s_Rule_count_baked) l_Rule_count_baked q_Rule_count_baked k_Rule_count_baked
  have B_Rule_count_baked := F_Rule_count_baked.binds (ps := p_Rule_count_baked) fun _ _ _ _ _ _ us hl => match us, hl with | [_, _, _, _], _ => rfl
  have F_RefillRule___init__ := fun_mk (st := s_RefillRule___init__) l_RefillRule___init__ q_RefillRule___init__ k_RefillRule___init__
  have B_RefillRule___init__ := F_RefillRule___init__.binds (ps := p_RefillRule___init__) fun _ _ _ _ _ _ us hl => match us, hl with | [_, _], _ => rfl
  have F_RefillRule_count_baked := fun_mk (st := s_RefillRule_count_baked) l_RefillRule_count_baked q_RefillRule_count_baked k_RefillRule_count_baked
  have B_RefillRule_count_baked := F_RefillRule_count_baked.binds (ps := p_RefillRule_count_baked) fun _ _ _ _ _ _ us hl => match us, hl with | [_, _, _, _], _ => rfl
  have B_SoldRule___init__ : KBn K (PySem.W.ksFn "__init__" "SoldRule.__init__" (defArgs s_SoldRule___init__) (defBody s_SoldRule___init__) (defScope s_SoldRule___init__) .none kV_SoldRule___init__ dc_SoldRule___init__ pm_SoldRule___init__ an_SoldRule___init__ (.ref ka_SoldRule___init__) ct_SoldRule___init__ cc_SoldRule___init__) p_SoldRule___init__ 2 ["more"] (fun us ws => us ++ ws) (fun vs zs => vs ++ zs) := ⟨fun s us ws _ h1 h2 => BindsTo.of_eq (match us, ws, h1, h2 with | [_, _], [_], _, _ => rfl), fun a b => a.append b⟩
  have F_SoldRule_count_baked := fun_mk (st := s_SoldRule_count_baked) l_SoldRule_count_baked q_SoldRule_count_baked k_SoldRule_count_baked
  have B_SoldRule_count_baked := F_SoldRule_count_baked.binds (ps := p_SoldRule_count_baked) fun _ _ _ _ _ _ us hl => match us, hl with | [_, _, _, _], _ => rfl
  have F_run := fun_mk (st := s_run) l_run q_run k_run
  have B_run := F_run.binds (ps := p_run) fun _ _ _ _ _ _ us hl => match us, hl with | [_, _, _, _], _ => rfl
  have F_outcome := fun_mk (st := s_outcome) l_outcome q_outcome k_outcome
  have B_outcome := F_outcome.binds (ps := p_outcome) fun _ _ _ _ _ _ us hl => match us, hl with | [_, _, _, _], _ => rfl
  have F__law_start := fun_mk (st := s__law_start) l__law_start q__law_start k__law_start
  have B__law_start := F__law_start.binds (ps := p__law_start) fun _ _ _ _ _ _ us hl => match us, hl with | [_], _ => rfl
  have F__law_drawn := fun_mk (st := s__law_drawn) l__law_drawn q__law_drawn k__law_drawn
  have B__law_drawn := F__law_drawn.binds (ps := p__law_drawn) fun _ _ _ _ _ _ us hl => match us, hl with | [_, _], _ => rfl
  have F__law_same := fun_mk (st := s__law_same) l__law_same q__law_same k__law_same
  have B__law_same := F__law_same.binds (ps := p__law_same) fun _ _ _ _ _ _ us hl => match us, hl with | [_, _], _ => rfl
  have F__law_outcome := fun_mk (st := s__law_outcome) l__law_outcome q__law_outcome k__law_outcome
  have B__law_outcome := F__law_outcome.binds (ps := p__law_outcome) fun _ _ _ _ _ _ us hl => match us, hl with | [_], _ => rfl
  have F__law_amounts := fun_mk (st := s__law_amounts) l__law_amounts q__law_amounts k__law_amounts
  have B__law_amounts := F__law_amounts.binds (ps := p__law_amounts) fun _ _ _ _ _ _ us hl => match us, hl with | [_, _, _], _ => rfl
  have F__law_sold := fun_mk (st := s__law_sold) l__law_sold q__law_sold k__law_sold
  have B__law_sold := F__law_sold.binds (ps := p__law_sold) fun _ _ _ _ _ _ us hl => match us, hl with | [_, _], _ => rfl
  have F__law_closed := fun_mk (st := s__law_closed) l__law_closed q__law_closed k__law_closed
  have B__law_closed := F__law_closed.binds (ps := p__law_closed) fun _ _ _ _ _ _ us hl => match us, hl with | [_, _], _ => rfl
  have F__law_rule := fun_mk (st := s__law_rule) l__law_rule q__law_rule k__law_rule
  have B__law_rule := F__law_rule.binds (ps := p__law_rule) fun _ _ _ _ _ _ us hl => match us, hl with | [_, _, _], _ => rfl
  have F__law_days := fun_mk (st := s__law_days) l__law_days q__law_days k__law_days
  have B__law_days := F__law_days.binds (ps := p__law_days) fun _ _ _ _ _ _ us hl => match us, hl with | [_, _, _, _, _, _], _ => rfl
  have F__law_refused := fun_mk (st := s__law_refused) l__law_refused q__law_refused k__law_refused
  have B__law_refused := F__law_refused.binds (ps := p__law_refused) fun _ _ _ _ _ _ us hl => match us, hl with | [_], _ => rfl
  have F_law := fun_mk (st := s_law) l_law q_law k_law
  have B_law := F_law.binds (ps := p_law) fun _ _ _ _ _ _ us hl => match us, hl with | [_], _ => rfl
  have T : Txt K mg { c_Bakery := c_Bakery, mc_Bakery := .type "type", c_Rule := c_Rule, mc_Rule := .type "type", c_RefillRule := c_RefillRule, mc_RefillRule := .type "type", c_SoldRule := c_SoldRule, mc_SoldRule := .type "type", t_MOST_LOAVES := t_MOST_LOAVES, t_MOST_RULE_DAYS := t_MOST_RULE_DAYS, c_LoafError := c_LoafError, c_InvalidBakery := c_InvalidBakery, c_InvalidNumber := c_InvalidNumber, c_InvalidRule := c_InvalidRule, P := l.prog, f_InvalidBakery___init__ := f_InvalidBakery___init__, k_InvalidBakery___init__ := ka_InvalidBakery___init__, cc_InvalidBakery___init__ := cc_InvalidBakery___init__, d_InvalidBakery___init__ := PySem.W.ksFn "__init__" "InvalidBakery.__init__" (defArgs s_InvalidBakery___init__) (defBody s_InvalidBakery___init__) (defScope s_InvalidBakery___init__) .none kV_InvalidBakery___init__ dc_InvalidBakery___init__ pm_InvalidBakery___init__ an_InvalidBakery___init__ (.ref ka_InvalidBakery___init__) ct_InvalidBakery___init__ cc_InvalidBakery___init__, f_InvalidRule___init__ := f_InvalidRule___init__, k_InvalidRule___init__ := ka_InvalidRule___init__, cc_InvalidRule___init__ := cc_InvalidRule___init__, d_InvalidRule___init__ := PySem.W.ksFn "__init__" "InvalidRule.__init__" (defArgs s_InvalidRule___init__) (defBody s_InvalidRule___init__) (defScope s_InvalidRule___init__) .none kV_InvalidRule___init__ dc_InvalidRule___init__ pm_InvalidRule___init__ an_InvalidRule___init__ (.ref ka_InvalidRule___init__) ct_InvalidRule___init__ cc_InvalidRule___init__, f_check_number := f_check_number, d_check_number := PySem.W.fnOf "check_number" "check_number" (defArgs s_check_number) (defBody s_check_number) (defScope s_check_number) .none kV_check_number dc_check_number pm_check_number an_check_number cd_check_number ct_check_number, f_check_amounts := f_check_amounts, d_check_amounts := PySem.W.fnOf "check_amounts" "check_amounts" (defArgs s_check_amounts) (defBody s_check_amounts) (defScope s_check_amounts) .none kV_check_amounts dc_check_amounts pm_check_amounts an_check_amounts cd_check_amounts ct_check_amounts, f_check_life := f_check_life, d_check_life := PySem.W.fnOf "check_life" "check_life" (defArgs s_check_life) (defBody s_check_life) (defScope s_check_life) .none kV_check_life dc_check_life pm_check_life an_check_life cd_check_life ct_check_life, f_check_bakery := f_check_bakery, d_check_bakery := PySem.W.fnOf "check_bakery" "check_bakery" (defArgs s_check_bakery) (defBody s_check_bakery) (defScope s_check_bakery) .none kV_check_bakery dc_check_bakery pm_check_bakery an_check_bakery cd_check_bakery ct_check_bakery, f_check_part := f_check_part, d_check_part := PySem.W.fnOf "check_part" "check_part" (defArgs s_check_part) (defBody s_check_part) (defScope s_check_part) .none kV_check_part dc_check_part pm_check_part an_check_part cd_check_part ct_check_part, f_Rule___init__ := f_Rule___init__, d_Rule___init__ := PySem.W.fnOf "__init__" "Rule.__init__" (defArgs s_Rule___init__) (defBody s_Rule___init__) (defScope s_Rule___init__) .none kV_Rule___init__ dc_Rule___init__ pm_Rule___init__ an_Rule___init__ cd_Rule___init__ ct_Rule___init__, f_Rule_count_baked := f_Rule_count_baked, d_Rule_count_baked := PySem.W.fnOf "count_baked" "Rule.count_baked" (defArgs s_Rule_count_baked) (defBody s_Rule_count_baked) (defScope s_Rule_count_baked) .none kV_Rule_count_baked dc_Rule_count_baked pm_Rule_count_baked an_Rule_count_baked cd_Rule_count_baked ct_Rule_count_baked, f_RefillRule___init__ := f_RefillRule___init__, d_RefillRule___init__ := PySem.W.fnOf "__init__" "RefillRule.__init__" (defArgs s_RefillRule___init__) (defBody s_RefillRule___init__) (defScope s_RefillRule___init__) .none kV_RefillRule___init__ dc_RefillRule___init__ pm_RefillRule___init__ an_RefillRule___init__ cd_RefillRule___init__ ct_RefillRule___init__, f_RefillRule_count_baked := f_RefillRule_count_baked, d_RefillRule_count_baked := PySem.W.fnOf "count_baked" "RefillRule.count_baked" (defArgs s_RefillRule_count_baked) (defBody s_RefillRule_count_baked) (defScope s_RefillRule_count_baked) .none kV_RefillRule_count_baked dc_RefillRule_count_baked pm_RefillRule_count_baked an_RefillRule_count_baked cd_RefillRule_count_baked ct_RefillRule_count_baked, f_SoldRule___init__ := f_SoldRule___init__, k_SoldRule___init__ := ka_SoldRule___init__, cc_SoldRule___init__ := cc_SoldRule___init__, d_SoldRule___init__ := PySem.W.ksFn "__init__" "SoldRule.__init__" (defArgs s_SoldRule___init__) (defBody s_SoldRule___init__) (defScope s_SoldRule___init__) .none kV_SoldRule___init__ dc_SoldRule___init__ pm_SoldRule___init__ an_SoldRule___init__ (.ref ka_SoldRule___init__) ct_SoldRule___init__ cc_SoldRule___init__, f_SoldRule_count_baked := f_SoldRule_count_baked, d_SoldRule_count_baked := PySem.W.fnOf "count_baked" "SoldRule.count_baked" (defArgs s_SoldRule_count_baked) (defBody s_SoldRule_count_baked) (defScope s_SoldRule_count_baked) .none kV_SoldRule_count_baked dc_SoldRule_count_baked pm_SoldRule_count_baked an_SoldRule_count_baked cd_SoldRule_count_baked ct_SoldRule_count_baked, f_run := f_run, d_run := PySem.W.fnOf "run" "run" (defArgs s_run) (defBody s_run) (defScope s_run) .none kV_run dc_run pm_run an_run cd_run ct_run, f_outcome := f_outcome, d_outcome := PySem.W.fnOf "outcome" "outcome" (defArgs s_outcome) (defBody s_outcome) (defScope s_outcome) .none kV_outcome dc_outcome pm_outcome an_outcome cd_outcome ct_outcome, f__law_start := f__law_start, d__law_start := PySem.W.fnOf "_law_start" "_law_start" (defArgs s__law_start) (defBody s__law_start) (defScope s__law_start) .none kV__law_start dc__law_start pm__law_start an__law_start cd__law_start ct__law_start, f__law_drawn := f__law_drawn, d__law_drawn := PySem.W.fnOf "_law_drawn" "_law_drawn" (defArgs s__law_drawn) (defBody s__law_drawn) (defScope s__law_drawn) .none kV__law_drawn dc__law_drawn pm__law_drawn an__law_drawn cd__law_drawn ct__law_drawn, f__law_same := f__law_same, d__law_same := PySem.W.fnOf "_law_same" "_law_same" (defArgs s__law_same) (defBody s__law_same) (defScope s__law_same) .none kV__law_same dc__law_same pm__law_same an__law_same cd__law_same ct__law_same, f__law_outcome := f__law_outcome, d__law_outcome := PySem.W.fnOf "_law_outcome" "_law_outcome" (defArgs s__law_outcome) (defBody s__law_outcome) (defScope s__law_outcome) .none kV__law_outcome dc__law_outcome pm__law_outcome an__law_outcome cd__law_outcome ct__law_outcome, f__law_amounts := f__law_amounts, d__law_amounts := PySem.W.fnOf "_law_amounts" "_law_amounts" (defArgs s__law_amounts) (defBody s__law_amounts) (defScope s__law_amounts) .none kV__law_amounts dc__law_amounts pm__law_amounts an__law_amounts cd__law_amounts ct__law_amounts, f__law_sold := f__law_sold, d__law_sold := PySem.W.fnOf "_law_sold" "_law_sold" (defArgs s__law_sold) (defBody s__law_sold) (defScope s__law_sold) .none kV__law_sold dc__law_sold pm__law_sold an__law_sold cd__law_sold ct__law_sold, f__law_closed := f__law_closed, d__law_closed := PySem.W.fnOf "_law_closed" "_law_closed" (defArgs s__law_closed) (defBody s__law_closed) (defScope s__law_closed) .none kV__law_closed dc__law_closed pm__law_closed an__law_closed cd__law_closed ct__law_closed, f__law_rule := f__law_rule, d__law_rule := PySem.W.fnOf "_law_rule" "_law_rule" (defArgs s__law_rule) (defBody s__law_rule) (defScope s__law_rule) .none kV__law_rule dc__law_rule pm__law_rule an__law_rule cd__law_rule ct__law_rule, f__law_days := f__law_days, d__law_days := PySem.W.fnOf "_law_days" "_law_days" (defArgs s__law_days) (defBody s__law_days) (defScope s__law_days) .none kV__law_days dc__law_days pm__law_days an__law_days cd__law_days ct__law_days, k__law_refused := ka__law_refused, tb__law_refused := tb__law_refused, f__law_refused := f__law_refused, d__law_refused := PySem.W.fnOf "_law_refused" "_law_refused" (defArgs s__law_refused) (defBody s__law_refused) (defScope s__law_refused) .none kV__law_refused dc__law_refused pm__law_refused an__law_refused (.ref ka__law_refused) ct__law_refused, f_law := fa, d_law := PySem.W.fnOf "law" "law" (defArgs s_law) (defBody s_law) (defScope s_law) .none kV_law dc_law pm_law an_law cd_law ct_law } :=
    { g_Bakery := PySem.W.mg_of X G g_Bakery,
      cl_Bakery := ⟨pg_Bakery, hd_Bakery, po_Bakery, sa_Bakery⟩,
      g_Rule := PySem.W.mg_of X G g_Rule,
      cl_Rule := ⟨pg_Rule, hd_Rule, po_Rule, sa_Rule⟩,
      g_RefillRule := PySem.W.mg_of X G g_RefillRule,
      cl_RefillRule := ⟨pg_RefillRule, hd_RefillRule, po_RefillRule, sa_RefillRule⟩,
      g_SoldRule := PySem.W.mg_of X G g_SoldRule,
      cl_SoldRule := ⟨pg_SoldRule, hd_SoldRule, po_SoldRule, sa_SoldRule⟩,
      cv_Bakery_MAX_DAYS := ⟨⟨rd_Bakery, gt_Bakery⟩, _, ⟨cv_Bakery_MAX_DAYS, ⟨_, rfl⟩⟩⟩,
      cv_Bakery_MAX_LIFE := ⟨⟨rd_Bakery, gt_Bakery⟩, _, ⟨cv_Bakery_MAX_LIFE, ⟨_, rfl⟩⟩⟩,
      na_Rule__amount := na_Rule__amount,
      cn_Rule_KIND := ⟨_, ⟨cn_Rule_KIND, ⟨_, rfl⟩, sp_cn_Rule_KIND, by decide +kernel⟩⟩,
      cv_Rule_KIND := ⟨⟨rd_Rule, gt_Rule⟩, _, ⟨cv_Rule_KIND, ⟨_, rfl⟩⟩⟩,
      na_RefillRule__goal := na_RefillRule__goal,
      cn_RefillRule_KIND := ⟨_, ⟨cn_RefillRule_KIND, ⟨_, rfl⟩, sp_cn_RefillRule_KIND, by decide +kernel⟩⟩,
      cv_RefillRule_KIND := ⟨⟨rd_RefillRule, gt_RefillRule⟩, _, ⟨cv_RefillRule_KIND, ⟨_, rfl⟩⟩⟩,
      na_SoldRule__more := na_SoldRule__more,
      na_SoldRule__amount := na_SoldRule__amount,
      cn_SoldRule_KIND := ⟨_, ⟨cn_SoldRule_KIND, ⟨_, rfl⟩, sp_cn_SoldRule_KIND, by decide +kernel⟩⟩,
      cv_SoldRule_KIND := ⟨⟨rd_SoldRule, gt_SoldRule⟩, _, ⟨cv_SoldRule_KIND, ⟨_, rfl⟩⟩⟩,
      g_MOST_LOAVES := PySem.W.mg_of X G g_MOST_LOAVES,
      g_MOST_RULE_DAYS := PySem.W.mg_of X G g_MOST_RULE_DAYS,
      b_bool := PySem.W.mg_none_of X G b_bool,
      b_enumerate := PySem.W.mg_none_of X G b_enumerate,
      b_int := PySem.W.mg_none_of X G b_int,
      b_isinstance := PySem.W.mg_none_of X G b_isinstance,
      b_len := PySem.W.mg_none_of X G b_len,
      b_list := PySem.W.mg_none_of X G b_list,
      b_max := PySem.W.mg_none_of X G b_max,
      b_min := PySem.W.mg_none_of X G b_min,
      b_range := PySem.W.mg_none_of X G b_range,
      b_sum := PySem.W.mg_none_of X G b_sum,
      b_super := PySem.W.mg_none_of X G b_super,
      b_tuple := PySem.W.mg_none_of X G b_tuple,
      b_zip := PySem.W.mg_none_of X G b_zip,
      g_LoafError := PySem.W.mg_of X G g_LoafError,
      g_InvalidBakery := PySem.W.mg_of X G g_InvalidBakery,
      g_InvalidNumber := PySem.W.mg_of X G g_InvalidNumber,
      g_InvalidRule := PySem.W.mg_of X G g_InvalidRule,
      xp_InvalidNumber := xp_InvalidNumber,
      xq_InvalidNumber := xq_InvalidNumber,
      xb_InvalidNumber := xb_InvalidNumber,
      xy_InvalidNumber := xy_InvalidNumber,
      xv_InvalidNumber := xv_InvalidNumber,
      xk_InvalidNumber_InvalidBakery := xk_InvalidNumber_InvalidBakery,
      xk_InvalidNumber_InvalidNumber := xk_InvalidNumber_InvalidNumber,
      xk_InvalidNumber_InvalidRule := xk_InvalidNumber_InvalidRule,
      xI_InvalidNumber := ⟨xic_InvalidNumber, xga_InvalidNumber, xgg_InvalidNumber, xb_InvalidNumber, xhd_InvalidNumber, xca_InvalidNumber, xe_cg, xe_ct, xmo_InvalidNumber⟩,
      xm_InvalidNumber := PySem.W.exm_ref xe_base xe_dict xe_type sL_InvalidNumber,
      xk_InvalidBakery_InvalidBakery := xk_InvalidBakery_InvalidBakery,
      xk_InvalidBakery_InvalidNumber := xk_InvalidBakery_InvalidNumber,
      xk_InvalidBakery_InvalidRule := xk_InvalidBakery_InvalidRule,
      na_InvalidBakery_part := na_InvalidBakery_part,
      na_InvalidBakery_index := na_InvalidBakery_index,
      xv_InvalidBakery := xv_InvalidBakery,
      ox_InvalidBakery := ⟨⟨_, _, _, _, _, _, _, _, _, _, _, _, _, _, _, xL_InvalidBakery, xr_InvalidBakery⟩, xsa_InvalidBakery, xeC_InvalidBakery, xtC_InvalidBakery, xkC_InvalidBakery⟩,
      xi_InvalidBakery := xi_InvalidBakery,
      xt_InvalidBakery := xt_InvalidBakery,
      xs_InvalidBakery := ⟨⟨_, _, _, _, _, _, _, _, rfl, l_InvalidBakery___init__, q_InvalidBakery___init__⟩, ⟨_, _, _, _, _, _, lk_InvalidBakery___init__, vf_InvalidBakery___init__, fi_InvalidBakery___init__⟩, ⟨_, _, _, ce_InvalidBakery___init__⟩, xe_any, su_InvalidBakery___init__, sb_InvalidBakery___init__, sv_InvalidBakery___init__, xe_top⟩,
      xI_InvalidBakery := ⟨xic_InvalidBakery, xga_InvalidBakery, xgg_InvalidBakery, xeC_InvalidBakery, xhd_InvalidBakery, xca_InvalidBakery, xe_cg, xe_ct, xmo_InvalidBakery⟩,
      xm_InvalidBakery := PySem.W.exm_ref xe_base xe_dict xe_type sL_InvalidBakery___init__,
      b_InvalidBakery___init__ := B_InvalidBakery___init__,
      xk_InvalidRule_InvalidBakery := xk_InvalidRule_InvalidBakery,
      xk_InvalidRule_InvalidNumber := xk_InvalidRule_InvalidNumber,
      xk_InvalidRule_InvalidRule := xk_InvalidRule_InvalidRule,
      na_InvalidRule_part := na_InvalidRule_part,
      xv_InvalidRule := xv_InvalidRule,
      ox_InvalidRule := ⟨⟨_, _, _, _, _, _, _, _, _, _, _, _, _, _, _, xL_InvalidRule, xr_InvalidRule⟩, xsa_InvalidRule, xeC_InvalidRule, xtC_InvalidRule, xkC_InvalidRule⟩,
      xi_InvalidRule := xi_InvalidRule,
      xt_InvalidRule := xt_InvalidRule,
      xs_InvalidRule := ⟨⟨_, _, _, _, _, _, _, _, rfl, l_InvalidRule___init__, q_InvalidRule___init__⟩, ⟨_, _, _, _, _, _, lk_InvalidRule___init__, vf_InvalidRule___init__, fi_InvalidRule___init__⟩, ⟨_, _, _, ce_InvalidRule___init__⟩, xe_any, su_InvalidRule___init__, sb_InvalidRule___init__, sv_InvalidRule___init__, xe_top⟩,
      xI_InvalidRule := ⟨xic_InvalidRule, xga_InvalidRule, xgg_InvalidRule, xeC_InvalidRule, xhd_InvalidRule, xca_InvalidRule, xe_cg, xe_ct, xmo_InvalidRule⟩,
      xm_InvalidRule := PySem.W.exm_ref xe_base xe_dict xe_type sL_InvalidRule___init__,
      b_InvalidRule___init__ := B_InvalidRule___init__,
      xn_InvalidBakery_InvalidBakery := PySem.W.exm_ref eb_InvalidBakery ed_InvalidBakery et_InvalidBakery es_InvalidBakery_InvalidBakery,
      xn_InvalidNumber_InvalidBakery := PySem.W.exm_ref eb_InvalidBakery ed_InvalidBakery et_InvalidBakery es_InvalidNumber_InvalidBakery,
      xn_InvalidNumber_InvalidNumber := PySem.W.exm_ref eb_InvalidNumber ed_InvalidNumber et_InvalidNumber es_InvalidNumber_InvalidNumber,
      xn_InvalidRule_InvalidBakery := PySem.W.exm_ref eb_InvalidBakery ed_InvalidBakery et_InvalidBakery es_InvalidRule_InvalidBakery,
      xn_InvalidRule_InvalidNumber := PySem.W.exm_ref eb_InvalidNumber ed_InvalidNumber et_InvalidNumber es_InvalidRule_InvalidNumber,
      xn_InvalidRule_InvalidRule := PySem.W.exm_ref eb_InvalidRule ed_InvalidRule et_InvalidRule es_InvalidRule_InvalidRule,
      xz_InvalidBakery := xz_InvalidBakery,
      xz_InvalidNumber := xz_InvalidNumber,
      xz_InvalidRule := xz_InvalidRule,
      in_Rule := ⟨⟨pg_Rule, hd_Rule, po_Rule, sa_Rule⟩, wc_Rule, xe_cg, xe_ct, wo_Rule, xk_ownM_Rule⟩,
      in_RefillRule := ⟨⟨pg_RefillRule, hd_RefillRule, po_RefillRule, sa_RefillRule⟩, wc_RefillRule, xe_cg, xe_ct, wo_RefillRule, xk_ownM_RefillRule⟩,
      in_SoldRule := ⟨⟨pg_SoldRule, hd_SoldRule, po_SoldRule, sa_SoldRule⟩, wc_SoldRule, xe_cg, xe_ct, wo_SoldRule, xk_ownM_SoldRule⟩,
      ik_RefillRule_Rule := ik_RefillRule_Rule,
      ik_SoldRule_Rule := ik_SoldRule_Rule,
      g_check_number := PySem.W.mg_of X G a_check_number,
      F_check_number := F_check_number,
      b_check_number := B_check_number,
      g_check_amounts := PySem.W.mg_of X G a_check_amounts,
      F_check_amounts := F_check_amounts,
      b_check_amounts := B_check_amounts,
      g_check_life := PySem.W.mg_of X G a_check_life,
      F_check_life := F_check_life,
      b_check_life := B_check_life,
      g_check_bakery := PySem.W.mg_of X G a_check_bakery,
      F_check_bakery := F_check_bakery,
      b_check_bakery := B_check_bakery,
      g_check_part := PySem.W.mg_of X G a_check_part,
      F_check_part := F_check_part,
      b_check_part := B_check_part,
      mk_Rule := ⟨mk_Rule, a_Rule___init__, i_Rule___init__, kc_Rule⟩,
      F_Rule___init__ := F_Rule___init__,
      b_Rule___init__ := B_Rule___init__,
      m_Rule_count_baked := ⟨a_Rule_count_baked, i_Rule_count_baked, k_Rule_count_baked⟩,
      F_Rule_count_baked := F_Rule_count_baked,
      b_Rule_count_baked := B_Rule_count_baked,
      mk_RefillRule := ⟨mk_RefillRule, a_RefillRule___init__, i_RefillRule___init__, kc_RefillRule⟩,
      F_RefillRule___init__ := F_RefillRule___init__,
      b_RefillRule___init__ := B_RefillRule___init__,
      m_RefillRule_count_baked := ⟨a_RefillRule_count_baked, i_RefillRule_count_baked, k_RefillRule_count_baked⟩,
      F_RefillRule_count_baked := F_RefillRule_count_baked,
      b_RefillRule_count_baked := B_RefillRule_count_baked,
      mk_SoldRule := ⟨mk_SoldRule, a_SoldRule___init__, i_SoldRule___init__, kc_SoldRule⟩,
      su_SoldRule___init__ := ⟨⟨_, _, _, _, _, _, _, _, _, rfl, l_SoldRule___init__, q_SoldRule___init__⟩, ⟨_, _, _, _, _, _, lk_SoldRule___init__, vf_SoldRule___init__, fi_SoldRule___init__⟩, ⟨_, _, _, ce_SoldRule___init__⟩, zu_any, sp_SoldRule___init__, sy_SoldRule___init__, sf_SoldRule___init__, sb_SoldRule___init__, sc_SoldRule, zu_top⟩,
      b_SoldRule___init__ := B_SoldRule___init__,
      m_SoldRule_count_baked := ⟨a_SoldRule_count_baked, i_SoldRule_count_baked, k_SoldRule_count_baked⟩,
      F_SoldRule_count_baked := F_SoldRule_count_baked,
      b_SoldRule_count_baked := B_SoldRule_count_baked,
      g_run := PySem.W.mg_of X G a_run,
      F_run := F_run,
      b_run := B_run,
      g_outcome := PySem.W.mg_of X G a_outcome,
      F_outcome := F_outcome,
      b_outcome := B_outcome,
      g__law_start := PySem.W.mg_of X G a__law_start,
      F__law_start := F__law_start,
      b__law_start := B__law_start,
      g__law_drawn := PySem.W.mg_of X G a__law_drawn,
      F__law_drawn := F__law_drawn,
      b__law_drawn := B__law_drawn,
      g__law_same := PySem.W.mg_of X G a__law_same,
      F__law_same := F__law_same,
      b__law_same := B__law_same,
      g__law_outcome := PySem.W.mg_of X G a__law_outcome,
      F__law_outcome := F__law_outcome,
      b__law_outcome := B__law_outcome,
      g__law_amounts := PySem.W.mg_of X G a__law_amounts,
      F__law_amounts := F__law_amounts,
      b__law_amounts := B__law_amounts,
      g__law_sold := PySem.W.mg_of X G a__law_sold,
      F__law_sold := F__law_sold,
      b__law_sold := B__law_sold,
      g__law_closed := PySem.W.mg_of X G a__law_closed,
      F__law_closed := F__law_closed,
      b__law_closed := B__law_closed,
      g__law_rule := PySem.W.mg_of X G a__law_rule,
      F__law_rule := F__law_rule,
      b__law_rule := B__law_rule,
      g__law_days := PySem.W.mg_of X G a__law_days,
      F__law_days := F__law_days,
      b__law_days := B__law_days,
      g__law_refused := PySem.W.mg_of X G a__law_refused,
      FC__law_refused := funC_mk (st := s__law_refused) l__law_refused q__law_refused,
      F__law_refused := F__law_refused,
      b__law_refused := B__law_refused,
      g_law := PySem.W.mg_of X G a_law,
      F_law := F_law,
      b_law := B_law }
  have all : ∀ (Pr : Addr × Addr → Prop), Pr (ka__law_refused, tb__law_refused) → ∀ p ∈ [(ka__law_refused, tb__law_refused)], Pr p := fun Pr hp p hm => by
    rw [List.mem_singleton.mp hm]; exact hp
  exact ⟨PySem.W.fnOf "law" "law" (defArgs s_law) (defBody s_law) (defScope s_law) .none kV_law dc_law pm_law an_law cd_law ct_law, [(ka__law_refused, tb__law_refused)], sp_lawT K tb__law_refused, all _ ht__law_refused, all _ nt__law_refused, all _ (PySem.W.codeHd_of_K X ch__law_refused), fun s v => .of_eq rfl, fun H a ns hl _ hT hS => ⟨a, ns, rfl, hS, hl, hT (ka__law_refused, tb__law_refused) (by simp), fun _ => rfl⟩, fun base _ _ TB => ok_law T rfl (TB (ka__law_refused, tb__law_refused) (by simp))⟩
end Sw

open PySem PySem.W PyProof.Rows
set_option maxRecDepth 100000 in
set_option maxHeartbeats 0 in
theorem PySem.Challenge.cw_staleloaves_k41_rules_day_by_day_holds : PySem.Challenge.rw_staleloaves_k41_rules_day_by_day.Holds := by
  w_on; o_law; k_head; (case hw => w_witness2)
  k_fill
  refine LamX.walk_ofTs (l := PySem.Challenge.rw_staleloaves_k41_rules_day_by_day) (n := 63) (k := 14) (x := "_law_script") (CX := fun _ => L2.CX0) rfl (by decide) rfl ⟨rfl, by decide, by decide⟩ (fun w h Y => PySem.W.km_in_of Y) ?F (fun _ _ _ _ _ z => z)
  case F =>
    intro w mg fa h Y KX G hmg
    refine' Sw.all_mk KX G hmg ?g_Bakery ?pg_Bakery ?hd_Bakery ?po_Bakery ?sa_Bakery ?g_Rule ?pg_Rule ?hd_Rule ?po_Rule ?sa_Rule ?mk_Rule ?kc_Rule ?g_RefillRule ?pg_RefillRule ?hd_RefillRule ?po_RefillRule ?sa_RefillRule ?mk_RefillRule ?kc_RefillRule ?g_SoldRule ?pg_SoldRule ?hd_SoldRule ?po_SoldRule ?sa_SoldRule ?mk_SoldRule ?kc_SoldRule ?rd_Bakery ?gt_Bakery ?cv_Bakery_MAX_DAYS ?cv_Bakery_MAX_LIFE ?na_Rule__amount ?cn_Rule_KIND ?sp_cn_Rule_KIND ?rd_Rule ?gt_Rule ?cv_Rule_KIND ?na_RefillRule__goal ?cn_RefillRule_KIND ?sp_cn_RefillRule_KIND ?rd_RefillRule ?gt_RefillRule ?cv_RefillRule_KIND ?na_SoldRule__more ?na_SoldRule__amount ?cn_SoldRule_KIND ?sp_cn_SoldRule_KIND ?rd_SoldRule ?gt_SoldRule ?cv_SoldRule_KIND ?g_MOST_LOAVES ?g_MOST_RULE_DAYS ?b_bool ?b_enumerate ?b_int ?b_isinstance ?b_len ?b_list ?b_max ?b_min ?b_range ?b_sum ?b_super ?b_tuple ?b_zip ?g_LoafError ?g_InvalidBakery ?g_InvalidNumber ?g_InvalidRule ?xe_base ?xe_dict ?xe_type ?xe_any ?xe_top ?xe_cg ?xe_ct ?xp_InvalidNumber ?xq_InvalidNumber ?xb_InvalidNumber ?xy_InvalidNumber ?xv_InvalidNumber ?xk_InvalidNumber_InvalidBakery ?xk_InvalidNumber_InvalidNumber ?xk_InvalidNumber_InvalidRule ?xhd_InvalidNumber ?xic_InvalidNumber ?xga_InvalidNumber ?xgg_InvalidNumber ?xca_InvalidNumber ?xmo_InvalidNumber ?sL_InvalidNumber ?xL_InvalidBakery ?xr_InvalidBakery ?xsa_InvalidBakery ?xkC_InvalidBakery ?xeC_InvalidBakery ?xtC_InvalidBakery ?xhd_InvalidBakery ?xic_InvalidBakery ?xga_InvalidBakery ?xgg_InvalidBakery ?xca_InvalidBakery ?xmo_InvalidBakery ?xi_InvalidBakery ?xt_InvalidBakery ?l_InvalidBakery___init__ ?q_InvalidBakery___init__ ?lk_InvalidBakery___init__ ?vf_InvalidBakery___init__ ?fi_InvalidBakery___init__ ?ce_InvalidBakery___init__ ?su_InvalidBakery___init__ ?sb_InvalidBakery___init__ ?sv_InvalidBakery___init__ ?sL_InvalidBakery___init__ ?xv_InvalidBakery ?xk_InvalidBakery_InvalidBakery ?xk_InvalidBakery_InvalidNumber ?xk_InvalidBakery_InvalidRule ?na_InvalidBakery_part ?na_InvalidBakery_index ?xL_InvalidRule ?xr_InvalidRule ?xsa_InvalidRule ?xkC_InvalidRule ?xeC_InvalidRule ?xtC_InvalidRule ?xhd_InvalidRule ?xic_InvalidRule ?xga_InvalidRule ?xgg_InvalidRule ?xca_InvalidRule ?xmo_InvalidRule ?xi_InvalidRule ?xt_InvalidRule ?l_InvalidRule___init__ ?q_InvalidRule___init__ ?lk_InvalidRule___init__ ?vf_InvalidRule___init__ ?fi_InvalidRule___init__ ?ce_InvalidRule___init__ ?su_InvalidRule___init__ ?sb_InvalidRule___init__ ?sv_InvalidRule___init__ ?sL_InvalidRule___init__ ?xv_InvalidRule ?xk_InvalidRule_InvalidBakery ?xk_InvalidRule_InvalidNumber ?xk_InvalidRule_InvalidRule ?na_InvalidRule_part ?eb_InvalidBakery ?ed_InvalidBakery ?et_InvalidBakery ?eb_InvalidNumber ?ed_InvalidNumber ?et_InvalidNumber ?eb_InvalidRule ?ed_InvalidRule ?et_InvalidRule ?es_InvalidBakery_InvalidBakery ?es_InvalidNumber_InvalidBakery ?es_InvalidNumber_InvalidNumber ?es_InvalidRule_InvalidBakery ?es_InvalidRule_InvalidNumber ?es_InvalidRule_InvalidRule ?xz_InvalidBakery ?xz_InvalidNumber ?xz_InvalidRule ?wo_Rule ?xk_ownM_Rule ?wc_Rule ?wo_RefillRule ?xk_ownM_RefillRule ?wc_RefillRule ?wo_SoldRule ?xk_ownM_SoldRule ?wc_SoldRule ?ik_RefillRule_Rule ?ik_SoldRule_Rule ?zu_any ?zu_top ?a_check_number ?l_check_number ?q_check_number ?k_check_number ?a_check_amounts ?l_check_amounts ?q_check_amounts ?k_check_amounts ?a_check_life ?l_check_life ?q_check_life ?k_check_life ?a_check_bakery ?l_check_bakery ?q_check_bakery ?k_check_bakery ?a_check_part ?l_check_part ?q_check_part ?k_check_part ?a_Rule___init__ ?i_Rule___init__ ?l_Rule___init__ ?q_Rule___init__ ?k_Rule___init__ ?a_Rule_count_baked ?i_Rule_count_baked ?l_Rule_count_baked ?q_Rule_count_baked ?k_Rule_count_baked ?a_RefillRule___init__ ?i_RefillRule___init__ ?l_RefillRule___init__ ?q_RefillRule___init__ ?k_RefillRule___init__ ?a_RefillRule_count_baked ?i_RefillRule_count_baked ?l_RefillRule_count_baked ?q_RefillRule_count_baked ?k_RefillRule_count_baked ?a_SoldRule___init__ ?i_SoldRule___init__ ?l_SoldRule___init__ ?q_SoldRule___init__ ?lk_SoldRule___init__ ?vf_SoldRule___init__ ?fi_SoldRule___init__ ?ce_SoldRule___init__ ?sp_SoldRule___init__ ?sy_SoldRule___init__ ?sf_SoldRule___init__ ?sb_SoldRule___init__ ?sc_SoldRule ?a_SoldRule_count_baked ?i_SoldRule_count_baked ?l_SoldRule_count_baked ?q_SoldRule_count_baked ?k_SoldRule_count_baked ?a_run ?l_run ?q_run ?k_run ?a_outcome ?l_outcome ?q_outcome ?k_outcome ?a__law_start ?l__law_start ?q__law_start ?k__law_start ?a__law_drawn ?l__law_drawn ?q__law_drawn ?k__law_drawn ?a__law_same ?l__law_same ?q__law_same ?k__law_same ?a__law_outcome ?l__law_outcome ?q__law_outcome ?k__law_outcome ?a__law_amounts ?l__law_amounts ?q__law_amounts ?k__law_amounts ?a__law_sold ?l__law_sold ?q__law_sold ?k__law_sold ?a__law_closed ?l__law_closed ?q__law_closed ?k__law_closed ?a__law_rule ?l__law_rule ?q__law_rule ?k__law_rule ?a__law_days ?l__law_days ?q__law_days ?k__law_days ?a__law_refused ?l__law_refused ?q__law_refused ?lc__law_refused ?he__law_refused ?ch__law_refused ?nt__law_refused ?ht__law_refused ?k__law_refused ?a_law ?l_law ?q_law ?k_law
    (case g_Bakery => k_is)
    (case pg_Bakery => k_is)
    (case hd_Bakery => k_is)
    (case po_Bakery => k_is)
    (case sa_Bakery => k_is)
    (case g_Rule => k_is)
    (case pg_Rule => k_is)
    (case hd_Rule => k_is)
    (case po_Rule => k_is)
    (case sa_Rule => k_is)
    (case mk_Rule => k_is)
    (case kc_Rule => k_is)
    (case g_RefillRule => k_is)
    (case pg_RefillRule => k_is)
    (case hd_RefillRule => k_is)
    (case po_RefillRule => k_is)
    (case sa_RefillRule => k_is)
    (case mk_RefillRule => k_is)
    (case kc_RefillRule => k_is)
    (case g_SoldRule => k_is)
    (case pg_SoldRule => k_is)
    (case hd_SoldRule => k_is)
    (case po_SoldRule => k_is)
    (case sa_SoldRule => k_is)
    (case mk_SoldRule => k_is)
    (case kc_SoldRule => k_is)
    (case rd_Bakery => k_is)
    (case gt_Bakery => k_is)
    (case cv_Bakery_MAX_DAYS => k_is)
    (case cv_Bakery_MAX_LIFE => k_is)
    (case na_Rule__amount => k_is)
    (case cn_Rule_KIND => k_is)
    (case sp_cn_Rule_KIND => k_is)
    (case rd_Rule => k_is)
    (case gt_Rule => k_is)
    (case cv_Rule_KIND => k_is)
    (case na_RefillRule__goal => k_is)
    (case cn_RefillRule_KIND => k_is)
    (case sp_cn_RefillRule_KIND => k_is)
    (case rd_RefillRule => k_is)
    (case gt_RefillRule => k_is)
    (case cv_RefillRule_KIND => k_is)
    (case na_SoldRule__more => k_is)
    (case na_SoldRule__amount => k_is)
    (case cn_SoldRule_KIND => k_is)
    (case sp_cn_SoldRule_KIND => k_is)
    (case rd_SoldRule => k_is)
    (case gt_SoldRule => k_is)
    (case cv_SoldRule_KIND => k_is)
    (case g_MOST_LOAVES => k_is)
    (case g_MOST_RULE_DAYS => k_is)
    (case b_bool => k_is)
    (case b_enumerate => k_is)
    (case b_int => k_is)
    (case b_isinstance => k_is)
    (case b_len => k_is)
    (case b_list => k_is)
    (case b_max => k_is)
    (case b_min => k_is)
    (case b_range => k_is)
    (case b_sum => k_is)
    (case b_super => k_is)
    (case b_tuple => k_is)
    (case b_zip => k_is)
    (case g_LoafError => k_is)
    (case g_InvalidBakery => k_is)
    (case g_InvalidNumber => k_is)
    (case g_InvalidRule => k_is)
    (case xe_base => k_is)
    (case xe_dict => k_is)
    (case xe_type => k_is)
    (case xe_any => k_is)
    (case xe_top => kernel_rfl)
    (case xe_cg => k_is)
    (case xe_ct => k_is)
    (case xp_InvalidNumber => first | k_exc | kernel_rfl)
    (case xq_InvalidNumber => k_is)
    (case xb_InvalidNumber => k_is)
    (case xy_InvalidNumber => k_is)
    (case xv_InvalidNumber => first | kit_is | kernel_rfl)
    (case xk_InvalidNumber_InvalidBakery => first | kit_is | kernel_rfl)
    (case xk_InvalidNumber_InvalidNumber => first | kit_is | kernel_rfl)
    (case xk_InvalidNumber_InvalidRule => first | kit_is | kernel_rfl)
    (case xhd_InvalidNumber => k_is)
    (case xic_InvalidNumber => k_is)
    (case xga_InvalidNumber => k_is)
    (case xgg_InvalidNumber => k_is)
    (case xca_InvalidNumber => k_is)
    (case xmo_InvalidNumber => k_is)
    (case sL_InvalidNumber => k_is)
    (case xL_InvalidBakery => k_is)
    (case xr_InvalidBakery => first | rfl | kernel_rfl | decide +kernel)
    (case xsa_InvalidBakery => k_is)
    (case xkC_InvalidBakery => k_is)
    (case xeC_InvalidBakery => k_is)
    (case xtC_InvalidBakery => k_is)
    (case xhd_InvalidBakery => k_is)
    (case xic_InvalidBakery => k_is)
    (case xga_InvalidBakery => k_is)
    (case xgg_InvalidBakery => k_is)
    (case xca_InvalidBakery => k_is)
    (case xmo_InvalidBakery => k_is)
    (case xi_InvalidBakery => k_is)
    (case xt_InvalidBakery => k_is)
    (case l_InvalidBakery___init__ => k_is)
    (case q_InvalidBakery___init__ => k_is)
    (case lk_InvalidBakery___init__ => k_is)
    (case vf_InvalidBakery___init__ => rfl)
    (case fi_InvalidBakery___init__ => kernel_rfl)
    (case ce_InvalidBakery___init__ => k_is)
    (case su_InvalidBakery___init__ => kernel_rfl)
    (case sb_InvalidBakery___init__ => k_is)
    (case sv_InvalidBakery___init__ => k_is)
    (case sL_InvalidBakery___init__ => k_is)
    (case xv_InvalidBakery => first | kit_is | kernel_rfl)
    (case xk_InvalidBakery_InvalidBakery => first | kit_is | kernel_rfl)
    (case xk_InvalidBakery_InvalidNumber => first | kit_is | kernel_rfl)
    (case xk_InvalidBakery_InvalidRule => first | kit_is | kernel_rfl)
    (case na_InvalidBakery_part => k_is)
    (case na_InvalidBakery_index => k_is)
    (case xL_InvalidRule => k_is)
    (case xr_InvalidRule => first | rfl | kernel_rfl | decide +kernel)
    (case xsa_InvalidRule => k_is)
    (case xkC_InvalidRule => k_is)
    (case xeC_InvalidRule => k_is)
    (case xtC_InvalidRule => k_is)
    (case xhd_InvalidRule => k_is)
    (case xic_InvalidRule => k_is)
    (case xga_InvalidRule => k_is)
    (case xgg_InvalidRule => k_is)
    (case xca_InvalidRule => k_is)
    (case xmo_InvalidRule => k_is)
    (case xi_InvalidRule => k_is)
    (case xt_InvalidRule => k_is)
    (case l_InvalidRule___init__ => k_is)
    (case q_InvalidRule___init__ => k_is)
    (case lk_InvalidRule___init__ => k_is)
    (case vf_InvalidRule___init__ => rfl)
    (case fi_InvalidRule___init__ => kernel_rfl)
    (case ce_InvalidRule___init__ => k_is)
    (case su_InvalidRule___init__ => kernel_rfl)
    (case sb_InvalidRule___init__ => k_is)
    (case sv_InvalidRule___init__ => k_is)
    (case sL_InvalidRule___init__ => k_is)
    (case xv_InvalidRule => first | kit_is | kernel_rfl)
    (case xk_InvalidRule_InvalidBakery => first | kit_is | kernel_rfl)
    (case xk_InvalidRule_InvalidNumber => first | kit_is | kernel_rfl)
    (case xk_InvalidRule_InvalidRule => first | kit_is | kernel_rfl)
    (case na_InvalidRule_part => k_is)
    (case eb_InvalidBakery => k_is)
    (case ed_InvalidBakery => k_is)
    (case et_InvalidBakery => k_is)
    (case eb_InvalidNumber => k_is)
    (case ed_InvalidNumber => k_is)
    (case et_InvalidNumber => k_is)
    (case eb_InvalidRule => k_is)
    (case ed_InvalidRule => k_is)
    (case et_InvalidRule => k_is)
    (case es_InvalidBakery_InvalidBakery => k_is)
    (case es_InvalidNumber_InvalidBakery => k_is)
    (case es_InvalidNumber_InvalidNumber => k_is)
    (case es_InvalidRule_InvalidBakery => k_is)
    (case es_InvalidRule_InvalidNumber => k_is)
    (case es_InvalidRule_InvalidRule => k_is)
    (case xz_InvalidBakery => k_is)
    (case xz_InvalidNumber => k_is)
    (case xz_InvalidRule => k_is)
    (case wo_Rule => k_is)
    (case xk_ownM_Rule => first | kit_is | kernel_rfl)
    (case wc_Rule => k_is)
    (case wo_RefillRule => k_is)
    (case xk_ownM_RefillRule => first | kit_is | kernel_rfl)
    (case wc_RefillRule => k_is)
    (case wo_SoldRule => k_is)
    (case xk_ownM_SoldRule => first | kit_is | kernel_rfl)
    (case wc_SoldRule => k_is)
    (case ik_RefillRule_Rule => first | kit_is | kernel_rfl)
    (case ik_SoldRule_Rule => first | kit_is | kernel_rfl)
    (case zu_any => k_is)
    (case zu_top => kernel_rfl)
    (case a_check_number => k_is)
    (case l_check_number => k_is)
    (case q_check_number => k_is)
    (case k_check_number => k_is)
    (case a_check_amounts => k_is)
    (case l_check_amounts => k_is)
    (case q_check_amounts => k_is)
    (case k_check_amounts => k_is)
    (case a_check_life => k_is)
    (case l_check_life => k_is)
    (case q_check_life => k_is)
    (case k_check_life => k_is)
    (case a_check_bakery => k_is)
    (case l_check_bakery => k_is)
    (case q_check_bakery => k_is)
    (case k_check_bakery => k_is)
    (case a_check_part => k_is)
    (case l_check_part => k_is)
    (case q_check_part => k_is)
    (case k_check_part => k_is)
    (case a_Rule___init__ => k_is)
    (case i_Rule___init__ => k_is)
    (case l_Rule___init__ => k_is)
    (case q_Rule___init__ => k_is)
    (case k_Rule___init__ => k_is)
    (case a_Rule_count_baked => k_is)
    (case i_Rule_count_baked => k_is)
    (case l_Rule_count_baked => k_is)
    (case q_Rule_count_baked => k_is)
    (case k_Rule_count_baked => k_is)
    (case a_RefillRule___init__ => k_is)
    (case i_RefillRule___init__ => k_is)
    (case l_RefillRule___init__ => k_is)
    (case q_RefillRule___init__ => k_is)
    (case k_RefillRule___init__ => k_is)
    (case a_RefillRule_count_baked => k_is)
    (case i_RefillRule_count_baked => k_is)
    (case l_RefillRule_count_baked => k_is)
    (case q_RefillRule_count_baked => k_is)
    (case k_RefillRule_count_baked => k_is)
    (case a_SoldRule___init__ => k_is)
    (case i_SoldRule___init__ => k_is)
    (case l_SoldRule___init__ => k_is)
    (case q_SoldRule___init__ => k_is)
    (case lk_SoldRule___init__ => k_is)
    (case vf_SoldRule___init__ => rfl)
    (case fi_SoldRule___init__ => kernel_rfl)
    (case ce_SoldRule___init__ => k_is)
    (case sp_SoldRule___init__ => kernel_rfl)
    (case sy_SoldRule___init__ => k_is)
    (case sf_SoldRule___init__ => k_is)
    (case sb_SoldRule___init__ => k_is)
    (case sc_SoldRule => k_is)
    (case a_SoldRule_count_baked => k_is)
    (case i_SoldRule_count_baked => k_is)
    (case l_SoldRule_count_baked => k_is)
    (case q_SoldRule_count_baked => k_is)
    (case k_SoldRule_count_baked => k_is)
    (case a_run => k_is)
    (case l_run => k_is)
    (case q_run => k_is)
    (case k_run => k_is)
    (case a_outcome => k_is)
    (case l_outcome => k_is)
    (case q_outcome => k_is)
    (case k_outcome => k_is)
    (case a__law_start => k_is)
    (case l__law_start => k_is)
    (case q__law_start => k_is)
    (case k__law_start => k_is)
    (case a__law_drawn => k_is)
    (case l__law_drawn => k_is)
    (case q__law_drawn => k_is)
    (case k__law_drawn => k_is)
    (case a__law_same => k_is)
    (case l__law_same => k_is)
    (case q__law_same => k_is)
    (case k__law_same => k_is)
    (case a__law_outcome => k_is)
    (case l__law_outcome => k_is)
    (case q__law_outcome => k_is)
    (case k__law_outcome => k_is)
    (case a__law_amounts => k_is)
    (case l__law_amounts => k_is)
    (case q__law_amounts => k_is)
    (case k__law_amounts => k_is)
    (case a__law_sold => k_is)
    (case l__law_sold => k_is)
    (case q__law_sold => k_is)
    (case k__law_sold => k_is)
    (case a__law_closed => k_is)
    (case l__law_closed => k_is)
    (case q__law_closed => k_is)
    (case k__law_closed => k_is)
    (case a__law_rule => k_is)
    (case l__law_rule => k_is)
    (case q__law_rule => k_is)
    (case k__law_rule => k_is)
    (case a__law_days => k_is)
    (case l__law_days => k_is)
    (case q__law_days => k_is)
    (case k__law_days => k_is)
    (case a__law_refused => k_is)
    (case l__law_refused => k_is)
    (case q__law_refused => k_is)
    (case lc__law_refused => k_is)
    (case he__law_refused => rfl)
    (case ch__law_refused => kernel_rfl)
    (case nt__law_refused => kernel_rfl)
    (case ht__law_refused => exact PySem.W.km_tabs_of Y _ (by decide))
    (case k__law_refused => k_is)
    (case a_law => k_is)
    (case l_law => k_is)
    (case q_law => k_is)
    (case k_law => k_is)
