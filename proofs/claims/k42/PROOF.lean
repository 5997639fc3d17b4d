import PyProof.Rows.All
import Wide.All
import OpenK.AllK
import Wide.FinOn
import HandS.ForMost
import KE.GoesMore
import KE.GoesEnum
import KE.KTupSum
import HandS.Evl
import HandS.TupAny
import HandS.Wide
import HandS.Style
import HandS.Property
import HandS.ClsMeth
import HandS.WideBits
import HandS.Steps
import HandS.Walk
import HandS.Strs
import HandS.SetFor
import HandS.IsInst
import KE.KLam
import HandS.Codes
import HandS.TryOnly
import HandS.Lambda
import HandS.Nested
import HandS.EndTab
import HandS.EndOwn
import HandS.ExcInit
import HandS.ExcOwn
import HandS.ExcField
import HandS.ExcIs
import HandS.WordsExc
import HandS.FStr
import KE.KSuper
import KE.KExcSuper
import KE.KExcIs
import HandS.TupMul
import HandS.Small
import HandS.Flow
import HandS.Flt
import HandS.Star
import KE.KOpsOwn
import HandS.RevRange
import HandS.Conv
import KE.GoesComp
import KE.GoesEnumKw
import HandS.StrMore
import HandS.ReplaceLit
import HandS.Zip
import PyProof.FString3
import HandS.TryMany
import HandS.GenCall
import HandS.GenList
import HandS.Defaults
import HandS.MakeKw
import HandS.MakeKwOnly
import PySem.Challenge.RW_staleloaves_k42_whole_rules_and_bakeries
set_option Elab.async false
set_option linter.all false
set_option maxRecDepth 100000
set_option maxHeartbeats 4000000
namespace Sw
open PySem PySem.Spec PyProof.Rows L2
/-! ### zip of a tuple, a tuple and a list; enumerate of a tuple -/
def Itz3 (K : PySem.W.Frag) (a b c : Addr) : It :=
  ⟨fun i H => ∃ (xs ys zs : List V) (x y z : V), SqT K H a xs ∧ SqT K H b ys ∧ SqL K H c zs ∧ xs[i]? = some x ∧ ys[i]? = some y ∧ zs[i]? = some z,
    fun i H v H' => ∃ T x y z, v = .ref T ∧ H T = none ∧ H' = upd H T (.tup [x, y, z]) ∧ (∀ xs, SqT K H a xs → xs[i]? = some x) ∧ (∀ ys, SqT K H b ys → ys[i]? = some y) ∧ ∀ zs, SqL K H c zs → zs[i]? = some z,
    fun i H => ∃ xs ys zs : List V, SqT K H a xs ∧ SqT K H b ys ∧ SqL K H c zs ∧ xs.length = i ∧ ys.length = i ∧ zs.length = i⟩
theorem turn_zip3 {P : Program} {w : World} {K : PySem.W.Frag} {elts : List Expr} {kk : Nat} {tpos : Pos} {a b c z TI TO i1 i2 i3 : Addr}
    (D : ZipSep3 z TI TO i1 i2 i3 [i1, a] [i2, b] [i3, c]) (h1a : a ≠ i1) (h2b : b ≠ i2) (h3c : c ≠ i3) :
    Turn P w K (.Tuple elts kk tpos) (Itz3 K a b c) [z, TI, TO, i1, i2, i3] z (fun i h => IsZip h z TI TO .none ∧ IsTupOf3 h TI (.ref i1) (.ref i2) (.ref i3) ∧ (∃ x y u, IsTupOf3 h TO x y u) ∧ h.IsTupleIter i1 a i ∧ h.IsTupleIter i2 b i ∧ h.IsListIter i3 c i) where
  mem := by simp
  obj := fun i h st d hd => by
    obtain ⟨hz, hTI, ⟨x, y, u, hTO⟩, ⟨o1, e1, _, d1⟩, ⟨o2, e2, _, d2⟩, ⟨o3, e3, _, d3⟩⟩ := st
    have e' : d = z ∨ d = TI ∨ d = TO ∨ d = i1 ∨ d = i2 ∨ d = i3 := by simpa using hd
    rcases e' with q | q | q | q | q | q
    · rw [q]; exact ⟨_, hz, fun v q => nomatch q⟩
    · rw [q]; exact ⟨_, hTI, fun v q => nomatch q⟩
    · rw [q]; exact ⟨_, hTO, fun v q => nomatch q⟩
    · rw [q]; exact ⟨o1, e1, fun v q => by rw [d1] at q; cases q⟩
    · rw [q]; exact ⟨o2, e2, fun v q => by rw [d2] at q; cases q⟩
    · rw [q]; exact ⟨o3, e3, fun v q => by rw [d3] at q; cases q⟩
  keep := fun i h h' st k => by
    obtain ⟨hz, hTI, ⟨x, y, u, hTO⟩, h1, h2, h3⟩ := st
    exact ⟨k z (by simp) _ hz, k TI (by simp) _ hTI, ⟨x, y, u, k TO (by simp) _ hTO⟩, h1.at fun o q => k i1 (by simp) o q, h2.at fun o q => k i2 (by simp) o q, h3.at fun o q => k i3 (by simp) o q⟩
  item := by
    intro X hP hw hK hc i pins s σ H E I hf st hg
    subst hP hw hK
    obtain ⟨hz, hTI, ⟨x0, y0, u0, hTO⟩, h1, h2, h3⟩ := st
    obtain ⟨xs, ys, zs, x, y, u, hqx, hqy, hqz, hx, hy, hu⟩ := hg
    obtain ⟨its, rv, p, _⟩ := I.tuple hqx
    obtain ⟨its2, rv2, p2, _⟩ := I.tuple hqy
    obtain ⟨its3, rv3, p3, _⟩ := I.list hqz
    obtain ⟨u1, hu1, ru1⟩ := rv.get hx
    obtain ⟨u2, hu2, ru2⟩ := rv2.get hy
    obtain ⟨u3, hu3, ru3⟩ := rv3.get hu
    have hh : X.A.in1.handled = none := I.ok.hd hc
    have D1 := Draws.tuple (prog := X.prog) (w := X.w) (A := X.A.in1) hh i1 a h1a its.toArray
    have D2 := Draws.tuple (prog := X.prog) (w := X.w) (A := X.A.in1) hh i2 b h2b its2.toArray
    have D3 := Draws.list (prog := X.prog) (w := X.w) (A := X.A.in1) hh i3 c h3c its3.toArray
    have hzl : z < s.heap.objs.size := Heap.lt_size hz
    have lt1 : i < its.toArray.size := by simpa using (List.getElem?_eq_some_iff.mp hu1).1
    have lt2 : i < its2.toArray.size := by simpa using (List.getElem?_eq_some_iff.mp hu2).1
    have lt3 : i < its3.toArray.size := by simpa using (List.getElem?_eq_some_iff.mp hu3).1
    refine wpAny_pyNext_zipD3_item D D1 D2 D3 hz hTI hTO ⟨h1, p⟩ ⟨h2, p2⟩ ⟨h3, p3.isList⟩ lt1 lt2 lt3 fun x1 x2 x3 h' tk q1 q2 q3 z' TO' s1' s2' s3' hT hsz hk => ?_
    have e1 : x1 = u1 := by have q : its[i]? = some x1 := by simpa using q1
                            rw [hu1] at q; exact (Option.some.inj q).symm
    have e2 : x2 = u2 := by have q : its2[i]? = some x2 := by simpa using q2
                            rw [hu2] at q; exact (Option.some.inj q).symm
    have e3 : x3 = u3 := by have q : its3[i]? = some x3 := by simpa using q3
                            rw [hu3] at q; exact (Option.some.inj q).symm
    subst e1 e2 e3
    refine ⟨_, rfl, wpAny_letOwnedTupleGo_zip (s := { s with heap := h', toks := tk }) z' fun h'' z'' sb => ?_⟩
    have hT2 : h''.get? s.heap.objs.size = some { cls := .type "tuple", data := .seq #[x1, x2, x3] } := (sb.2 _ (Nat.ne_of_gt hzl)).trans hT
    have new : ObjOk X.prog X.w (upd H s.heap.objs.size (.tup [x, y, u])) h'' s.heap.objs.size (.tup [x, y, u]) :=
      ⟨by show 3 ≤ sizeLine; decide, [x1, x2, x3], .cons ru1 (.cons ru2 (.cons ru3 .nil)), ⟨_, hT2, rfl, _, rfl⟩⟩
    have I1 : Inv X pins σ (upd H s.heap.objs.size (.tup [x, y, u])) { s with heap := h'', toks := tk } :=
      I.turnedNew (t' := tk) (ch := [z, TI, TO, i1, i2, i3]) (fun d o hb q => (sb.2 d (fun q' => hb (by simp [q']))).trans (hk d o (fun q' => hb (by simp [q'])) (fun q' => hb (by simp [q'])) (fun q' => hb (by simp [q'])) (fun q' => hb (by simp [q'])) (fun q' => hb (by simp [q'])) q)) hf (Nat.le_refl _) new
    refine ⟨.ref s.heap.objs.size, _, I1, rfl, ⟨_, x, y, u, rfl, I.hok.fresh (Nat.le_refl _), rfl, fun l hl => by rw [I.tuple_inj hl hqx]; exact hx, fun l hl => by rw [I.tuple_inj hl hqy]; exact hy, fun l hl => by rw [I.list_inj hl hqz]; exact hu⟩, ⟨z'', ?_, ⟨x1, x2, x3, ?_⟩, ?_, ?_, ?_⟩, fun d hdm => ?_⟩
    · exact (sb.2 _ D.TIz).trans (hk _ _ D.TIz D.TITO D.TIi1 D.TIi2 D.TIi3 hTI)
    · exact (sb.2 _ D.TOz).trans TO'
    · exact s1'.1.at fun o q => (sb.2 _ D.zi1.symm).trans q
    · exact s2'.1.at fun o q => (sb.2 _ D.zi2.symm).trans q
    · exact s3'.1.at fun o q => (sb.2 _ D.zi3.symm).trans q
    · have hlt : d < s.heap.objs.size := by
        have e' : d = z ∨ d = TI ∨ d = TO ∨ d = i1 ∨ d = i2 ∨ d = i3 := by simpa using hdm
        rcases e' with q | q | q | q | q | q
        · rw [q]; exact hzl
        · rw [q]; exact Heap.lt_size hTI
        · rw [q]; exact Heap.lt_size hTO
        · rw [q]; obtain ⟨_, e1, _⟩ := h1; exact Heap.lt_size e1
        · rw [q]; obtain ⟨_, e2, _⟩ := h2; exact Heap.lt_size e2
        · rw [q]; obtain ⟨_, e3, _⟩ := h3; exact Heap.lt_size e3
      rw [upd_ne (Nat.ne_of_lt hlt)]
      exact (hf d hdm).1
  done := by
    intro X hP hw hK hc i pins s σ H E I hf st hg
    subst hP hw hK
    obtain ⟨hz, hTI, ⟨x0, y0, u0, hTO⟩, h1, h2, h3⟩ := st
    obtain ⟨xs, ys, zs, hqx, hqy, hqz, l1, l2, l3⟩ := hg
    obtain ⟨its, rv, p, _⟩ := I.tuple hqx
    obtain ⟨its2, rv2, p2, _⟩ := I.tuple hqy
    obtain ⟨its3, rv3, p3, _⟩ := I.list hqz
    have m1 : i = its.toArray.size := by have := rv.length; simp; omega
    have m2 : i = its2.toArray.size := by have := rv2.length; simp; omega
    have m3 : i = its3.toArray.size := by have := rv3.length; simp; omega
    have hh : X.A.in1.handled = none := I.ok.hd hc
    have D1 := Draws.tuple (prog := X.prog) (w := X.w) (A := X.A.in1) hh i1 a h1a its.toArray
    have D2 := Draws.tuple (prog := X.prog) (w := X.w) (A := X.A.in1) hh i2 b h2b its2.toArray
    have D3 := Draws.list (prog := X.prog) (w := X.w) (A := X.A.in1) hh i3 c h3c its3.toArray
    exact wpAny_pyNext_zipD3_end D D1 D2 D3 hz hTI hTO ⟨h1, p⟩ ⟨h2, p2⟩ ⟨h3, p3.isList⟩ (Nat.le_of_eq m1) (Nat.le_of_eq m2) (Nat.le_of_eq m3) (.inl m1) fun h' tk hk => ⟨rfl, I.turnedL (t' := tk) (ch := [z, TI, TO, i1, i2, i3]) (fun d o hb q =>
      hk d o (fun q' => hb (by simp [q'])) (fun q' => hb (by simp [q'])) (fun q' => hb (by simp [q'])) (fun q' => hb (by simp [q'])) (fun q' => hb (by simp [q'])) q) hf⟩
  self := fun A i s Q E st h => wpAny_pyIter_zip st.1 h
def iZip3 (K : PySem.W.Frag) (ta : TA) : TI := fun σ H R => ta σ H fun vs H1 => ∃ a b c xs ys zs, vs = [.ref a, .ref b, .ref c] ∧ SqT K H1 a xs ∧ SqT K H1 b ys ∧ SqL K H1 c zs ∧ R (Itz3 K a b c) H1
theorem pi_zip3 {X : Cx} {e e2 e3 : Expr} {ta : TA} {p pos tpos : Pos} {elts : List Expr} {kk : Nat} (hg : Gl X "zip") (hm : X.mg "zip" = none) (ha : PA X [e, e2, e3] ta)
    (hs : starEach [e, e2, e3] X.env = (false, eval e X.env) :: starEach [e2, e3] X.env := by rfl) (hpl : (backTo pos (starEach [e2, e3] X.env)).any (·.1) = false := by rfl) :
    PI X (.Tuple elts kk tpos) (.Call (.Name "zip" p) [e, e2, e3] [] pos) (iZip3 X.K ta) := by
  refine ⟨fun pins s σ H R I h => ?_⟩
  refine Call_ (ld_blt I hg hm PyProof.Rows.boot_zip (PyProof.Rows.callWith_type1 (thn (ha.run pos pins s σ H _ I h) fun us s1 ⟨vs, H1, I1, r1, q1⟩ => ?_) hs hpl))
  obtain ⟨a, b, c, xs, ys, zs, ex, hqx, hqy, hqz, q⟩ := q1
  subst ex
  cases r1 with
  | cons r rr =>
    cases rr with
    | cons r' rr =>
      cases rr with
      | cons r'' rr =>
        cases rr
        cases r
        cases r'
        cases r''
        obtain ⟨its, rv, p1, _⟩ := I1.tuple hqx
        obtain ⟨its2, rv2, p2, _⟩ := I1.tuple hqy
        obtain ⟨its3, rv3, p3, _⟩ := I1.list hqz
        have la : a < s1.heap.objs.size := p1.lt
        have lb : b < s1.heap.objs.size := p2.lt
        have lc : c < s1.heap.objs.size := p3.lt
        refine zip_begins3 (begins_tuple a its.toArray) (begins_tuple b its2.toArray) (begins_list c its3.toArray) p1 p2 p3.isList fun h' hz hTI hTO h1 h2 h3 hsz hk => wpAny_pyIter_zip hz ?_
        have I2 : Inv X pins σ H1 { s1 with heap := h' } := I1.kept (t' := s1.toks) hk
        have sep : ZipSep3 (s1.heap.objs.size + 5) (s1.heap.objs.size + 3) (s1.heap.objs.size + 4) s1.heap.objs.size (s1.heap.objs.size + 1) (s1.heap.objs.size + 2) [s1.heap.objs.size, a] [s1.heap.objs.size + 1, b] [s1.heap.objs.size + 2, c] :=
          zip_sep3 (N := s1.heap.objs.size) (fp1 := [a]) (fp2 := [b]) (fp3 := [c]) (fun d hd => by rw [List.mem_singleton.mp hd]; exact la) (fun d hd => by rw [List.mem_singleton.mp hd]; exact lb) (fun d hd => by rw [List.mem_singleton.mp hd]; exact lc)
        refine ⟨s1.heap.objs.size + 5, [s1.heap.objs.size + 5, s1.heap.objs.size + 3, s1.heap.objs.size + 4, s1.heap.objs.size, s1.heap.objs.size + 1, s1.heap.objs.size + 2], _, _, H1, rfl, I2,
          turn_zip3 sep (Nat.ne_of_lt la) (Nat.ne_of_lt (Nat.lt_succ_of_lt lb)) (Nat.ne_of_lt (Nat.lt_succ_of_lt (Nat.lt_succ_of_lt lc))), ⟨hz, hTI, ⟨_, _, _, hTO⟩, ⟨_, h1, rfl, rfl⟩, ⟨_, h2, rfl, rfl⟩, ⟨_, h3, rfl, rfl⟩⟩, fun d hdm => ?_, q⟩
        have e' : d = s1.heap.objs.size + 5 ∨ d = s1.heap.objs.size + 3 ∨ d = s1.heap.objs.size + 4 ∨ d = s1.heap.objs.size ∨ d = s1.heap.objs.size + 1 ∨ d = s1.heap.objs.size + 2 := by simpa using hdm
        have hle : s1.heap.objs.size ≤ d := by
          rcases e' with z | z | z | z | z | z
          · rw [z]; exact Nat.le_add_right _ _
          · rw [z]; exact Nat.le_add_right _ _
          · rw [z]; exact Nat.le_add_right _ _
          · rw [z]; exact Nat.le_refl _
          · rw [z]; exact Nat.le_add_right _ _
          · rw [z]; exact Nat.le_add_right _ _
        exact I1.fpOk hle (I1.hok.fresh hle)
/-- the tuple at a, each item in a new pair with its number -/
def IteT (K : PySem.W.Frag) (a : Addr) : It :=
  ⟨fun i H => ∃ (xs : List V) (x : V), SqT K H a xs ∧ xs[i]? = some x, fun i H v H' => ∃ T x, v = .ref T ∧ H T = none ∧ H' = upd H T (.tup [.int (i : Nat), x]) ∧ ∀ xs, SqT K H a xs → xs[i]? = some x, fun i H => ∃ xs : List V, SqT K H a xs ∧ xs.length = i⟩
theorem turn_enumT {P : Program} {w : World} {K : PySem.W.Frag} {elts : List Expr} {kk : Nat} {tpos : Pos} (a e it : Addr) (hai : a ≠ it) (hae : e ≠ a) :
    Turn P w K (.Tuple elts kk tpos) (IteT K a) [e, it] e (fun i h => (∃ old, IsEnum h e it ((i : Nat) : Int) old) ∧ h.IsTupleIter it a i ∧ e ≠ it) where
  mem := by simp
  obj := fun i h st b hb => by
    obtain ⟨⟨old, he⟩, ⟨o, ho, hc, hd⟩, _⟩ := st
    have e' : b = e ∨ b = it := by simpa using hb
    rcases e' with z | z
    · rw [z]; exact ⟨_, he, fun v q => nomatch q⟩
    · rw [z]; exact ⟨o, ho, fun v q => by rw [hd] at q; cases q⟩
  keep := fun i h h' st k => let ⟨⟨old, he⟩, hi, hne⟩ := st; ⟨⟨old, k e (by simp) _ he⟩, hi.at fun o q => k it (by simp) o q, hne⟩
  item := by
    intro X hP hw hK hc i pins s σ H E I hf st hg
    subst hP hw hK
    obtain ⟨⟨old, he⟩, hit, hne⟩ := st
    obtain ⟨xs, x, hq, hx⟩ := hg
    obtain ⟨its, rv, p, hz⟩ := I.tuple hq
    obtain ⟨u, hu, ru⟩ := rv.get hx
    have hel : e < s.heap.objs.size := Heap.lt_size he
    have hil : it < s.heap.objs.size := by obtain ⟨_, q, _⟩ := hit; exact Heap.lt_size q
    have hh : X.A.in1.handled = none := I.ok.hd hc
    have D1 := Draws.tuple (prog := X.prog) (w := X.w) (A := X.A.in1) hh it a hai its.toArray
    have lt1 : i < its.toArray.size := by simpa using (List.getElem?_eq_some_iff.mp hu).1
    have hef : e ∉ [it, a] := by simp [hne, hae]
    refine wpAny_pyNext_enum_itemD D1 he ⟨hit, p⟩ lt1 hne hef fun x1 h' tk q1 ho st' hT hsz hk => ?_
    have e1 : x1 = u := by have q : its[i]? = some x1 := by simpa using q1
                           rw [hu] at q; exact (Option.some.inj q).symm
    subst e1
    refine ⟨_, rfl, wpAny_letOwnedTupleGo_enum (s := { s with heap := h', toks := tk + 1 }) ho fun h'' he' sb => ?_⟩
    have hT2 : h''.get? s.heap.objs.size = some { cls := .type "tuple", data := .seq #[.int i tk, x1] } := (sb.2 _ (Nat.ne_of_gt hel)).trans hT
    have new : ObjOk X.prog X.w (upd H s.heap.objs.size (.tup [.int (i : Nat), x])) h'' s.heap.objs.size (.tup [.int (i : Nat), x]) :=
      ⟨by show 2 ≤ sizeLine; decide, [.int i tk, x1], .cons ⟨_, rfl⟩ (.cons ru .nil), ⟨_, hT2, rfl, _, rfl⟩⟩
    have I1 : Inv X pins σ (upd H s.heap.objs.size (.tup [.int (i : Nat), x])) { s with heap := h'', toks := tk + 1 } :=
      I.turnedNew (ch := [e, it]) (fun b ob hb q => (sb.2 b (fun z => hb (by simp [z]))).trans (hk b ob (fun z => hb (by simp [z])) (fun z => hb (by simp [z])) q)) hf (Nat.le_refl _) new
    refine ⟨.ref s.heap.objs.size, _, I1, rfl, ⟨_, x, rfl, I.hok.fresh (Nat.le_refl _), rfl, fun ys hy => by rw [I.tuple_inj hy hq]; exact hx⟩, ⟨⟨x1, ?_⟩, st'.1.at fun o q => (sb.2 it (Ne.symm hne)).trans q, hne⟩, fun b hb => ?_⟩
    · have e1 : ((i + 1 : Nat) : Int) = (i : Int) + 1 := by omega
      rw [e1]; exact he'
    · have hb' : b < s.heap.objs.size := by
        have e' : b = e ∨ b = it := by simpa using hb
        rcases e' with z | z
        · rw [z]; exact hel
        · rw [z]; exact hil
      rw [upd_ne (Nat.ne_of_lt hb')]
      exact (hf b hb).1
  done := by
    intro X hP hw hK hc i pins s σ H E I hf st hg
    subst hP hw hK
    obtain ⟨⟨old, he⟩, hit, hne⟩ := st
    obtain ⟨xs, hq, hx⟩ := hg
    obtain ⟨its, rv, p, hz⟩ := I.tuple hq
    obtain ⟨f0, f1, f2, f3, f4, f5⟩ := hf it (by simp)
    have hh : X.A.in1.handled = none := I.ok.hd hc
    have D1 := Draws.tuple (prog := X.prog) (w := X.w) (A := X.A.in1) hh it a hai its.toArray
    have m1 : its.toArray.size = i := by have := rv.length; simp; omega
    refine wpAny_pyNext_enum_endD D1 he ⟨by rw [m1]; exact hit, p⟩ fun h' eb => ⟨rfl, I.turned (t' := s.toks) (fun b o hb q => eb b o hb q) f0 f1 f3 f4 f5⟩
  self := fun A i s Q E st h => let ⟨⟨_, he⟩, _⟩ := st; wpAny_pyIter_enum he h

theorem meets_enumerate_newB1 {v : Value} {o : Obj} {H : Heap → Prop} (B : Begins v o H) :
    Meets (Builtin.«enumerate.__new__» ⟨[.type "enumerate", v], []⟩) (fun _ R s => H s.heap ∧
      R (.ok (.ret (.ref (s.heap.push o).objs.size))) { s with heap := (s.heap.push o).push { cls := .type "enumerate", data := .fields #[.none, .bool false, .ref s.heap.objs.size, rawInt 0, .none, .none] } }) :=
  .of_wp fun prog w A R s h => by
    obtain ⟨hp, g, d, tk, os⟩ := s; obtain ⟨h1, h⟩ := h
    have hsub := sub_enumerate
    have q1 : ∀ {A' : Around} {E : Value → Shared → Prop} {Q : Value → Shared → Prop}, Q (.ref hp.objs.size) ⟨hp.push o, g, d, tk, os⟩ → wpAny (model prog w) A' (pyIter v) Q E ⟨hp, g, d, tk, os⟩ :=
      fun q => B.iter prog w _ _ ⟨hp, g, d, tk, os⟩ _ h1 q
    wp_walk using q1
    refine wpAny_stack_any fun st => wpAny_pure ?_
    split
    · rename_i c _ _ _ _ _
      cases (c == Value.type "enumerate")
      · wp_walk using q1
        exact ⟨_, rfl, h⟩
      · wp_walk using q1
        exact ⟨_, rfl, h⟩
    · wp_walk using q1
      exact ⟨_, rfl, h⟩
theorem enum_begins1 {prog : Program} {w : World} {A : Around} {E : Value → Shared → Prop} {s : Shared} {v : Value} {o : Obj} {H : Heap → Prop} {Q : Value → Shared → Prop} (B : Begins v o H) (h1 : H s.heap)
    (h : ∀ h', IsEnum h' (s.heap.objs.size + 1) s.heap.objs.size 0 .none → h'.get? s.heap.objs.size = some o → h'.objs.size = s.heap.objs.size + 2 →
      (∀ b o, s.heap.get? b = some o → h'.get? b = some o) → Q (.ref (s.heap.objs.size + 1)) { s with heap := h' }) :
    wpAny (model prog w) A (call (.type "enumerate") [v]) Q E s := by
  refine callType_new F.called_enumerate (by decide) (F.typeCall_enumerate_1 _) (F.newCall_enumerate_1 _) (fun obj => F.args_object_init_2 obj _) F.entry_enumerate_new
    (meets_enumerate_newB1 B) ⟨h1, ?_⟩
  have hz : (s.heap.push o).objs.size = s.heap.objs.size + 1 := Heap.size_push ..
  show _ ∧ _
  rw [hz]
  have he : IsEnum ((s.heap.push o).push { cls := .type "enumerate", data := .fields #[.none, .bool false, .ref s.heap.objs.size, rawInt 0, .none, .none] }) (s.heap.objs.size + 1) s.heap.objs.size 0 .none := by
    have := Heap.get?_push_size (s.heap.push o) (o := { cls := .type "enumerate", data := .fields #[.none, .bool false, .ref s.heap.objs.size, rawInt 0, .none, .none] }) rfl
    rw [hz] at this; exact this
  refine ⟨⟨_, he, rfl⟩, h _ he (Heap.get?_push_of_some _ (Heap.get?_push_size _ B.free)) (by rw [Heap.size_push, hz]) fun b o x => Heap.get?_push_of_some _ (Heap.get?_push_of_some _ x)⟩
def iEnumT (K : PySem.W.Frag) (ta : TA) : TI := fun σ H R => ta σ H fun vs H1 => ∃ a xs, vs = [.ref a] ∧ SqT K H1 a xs ∧ R (IteT K a) H1
theorem pi_enumT {X : Cx} {e : Expr} {ta : TA} {p pos tpos : Pos} {elts : List Expr} {kk : Nat} (hg : Gl X "enumerate") (hm : X.mg "enumerate" = none) (ha : PA X [e] ta) (hs : starEach [e] X.env = [(false, eval e X.env)] := by rfl) :
    PI X (.Tuple elts kk tpos) (.Call (.Name "enumerate" p) [e] [] pos) (iEnumT X.K ta) := by
  refine ⟨fun pins s σ H R I h => ?_⟩
  refine Call_ (ld_blt I hg hm boot_enumerate (PyProof.Rows.callWith_type1 (thn (ha.run pos pins s σ H _ I h) fun us s1 ⟨vs, H1, I1, r1, q1⟩ => ?_) hs rfl))
  obtain ⟨a, xs, ex, hq, q⟩ := q1
  subst ex
  cases r1 with
  | cons r rr =>
    cases rr
    cases r
    obtain ⟨its, rv, p', hz⟩ := I1.tuple hq
    have la : a < s1.heap.objs.size := p'.lt
    refine enum_begins1 (begins_tuple a its.toArray) p' fun h' he hit hsz hk => wpAny_pyIter_enum he ?_
    have I2 : Inv X pins σ H1 { s1 with heap := h' } := I1.kept (t' := s1.toks) hk
    refine ⟨s1.heap.objs.size + 1, [s1.heap.objs.size + 1, s1.heap.objs.size], _, _, H1, rfl, I2, turn_enumT a (s1.heap.objs.size + 1) s1.heap.objs.size (Nat.ne_of_lt la) (Nat.ne_of_gt (Nat.lt_succ_of_lt la)), ⟨⟨.none, he⟩, ⟨_, hit, rfl, rfl⟩, Nat.succ_ne_self _⟩, fun b hb => ?_, q⟩
    have e' : b = s1.heap.objs.size + 1 ∨ b = s1.heap.objs.size := by simpa using hb
    have hle : s1.heap.objs.size ≤ b := by
      rcases e' with z | z
      · rw [z]; exact Nat.le_add_right _ _
      · rw [z]; exact Nat.le_refl _
    exact I1.fpOk hle (I1.hok.fresh hle)
end Sw
namespace Sw
open PySem PySem.Spec PyProof.Rows L2 Evl
/-! ### more rules: sum of a tuple -/
section
variable {X : Cx}
def rSumT (K : PySem.W.Frag) : List V → Hp → VK → Prop := fun vs H Q => ∃ (a : Addr) (ns : List Int), vs = [V.ref a] ∧ SqT K H a (ns.map V.int) ∧ Q (.int ns.sum) H
theorem cr_sumT (hc : X.calm = true) : CallR X (.builtin "sum") (rSumT X.K) := by
  intro pins s σ H vs us Q I r h
  obtain ⟨a, ns, rfl, hs, q⟩ := h
  obtain ⟨its, rv, hl, _⟩ := I.tuple hs
  rw [Vals.ref1 r]
  obtain ⟨xs, e⟩ := rv.ints.allInts.items
  have hn : numsOf (intItems xs).toList = ns := by rw [← e]; exact rv.ints.numsOf
  rw [nums_intItems] at hn
  have hl' : s.heap.IsTuple a (intItems xs) := by rw [← e]; exact hl
  refine PySem.W.ktm_sumG (I.ok.hd hc) hl' fun h' tk t' hk => ⟨.int ns.sum, H, I.kept hk, ⟨t', ?_⟩, q⟩
  rw [preSum_eq, List.take_of_length_le (by simp), hn]
theorem ps_no {st : Stmt} : PS X st (fun _ _ _ => False) := ⟨fun _ _ _ _ _ _ h => h.elim⟩
end
/-! ### what they evaluate to -/
section
variable {K : PySem.W.Frag} {σ : L2.St} {H H' : Hp} {ta tb te tx : TE} {x y z v : V}
theorem ev_sumN {ns : List Int} (h : EvL ta σ H (ns.map V.int)) : Ev (tCB (rSum K) (tCons ta tNil)) σ H (.int ns.sum) := fun H1 e Q q =>
  h H1 e _ fun p H2 _ e2 h2 => ⟨p, ns, rfl, sq_of h2, q H2 e2⟩
theorem ev_sumL {a : Addr} {ns : List Int} (h : Ev ta σ H (.ref a)) (hx : SqL K H a (ns.map V.int)) : Ev (tCB (rSum K) (tCons ta tNil)) σ H (.int ns.sum) := fun H1 e Q q =>
  h H1 e _ fun H2 e2 => ⟨a, ns, rfl, ex_l (e.trans e2) hx, q H2 e2⟩
theorem ev_sumT {a : Addr} {ns : List Int} (h : Ev ta σ H (.ref a)) (hx : SqT K H a (ns.map V.int)) : Ev (tCB (rSumT K) (tCons ta tNil)) σ H (.int ns.sum) := fun H1 e Q q =>
  h H1 e _ fun H2 e2 => ⟨a, ns, rfl, ex_t (e.trans e2) hx, q H2 e2⟩
theorem ev_lenT {a : Addr} {xs : List V} (h : Ev ta σ H (.ref a)) (hx : SqT K H a xs) : Ev (tCB (rLenS K) (tCons ta tNil)) σ H (.int (xs.length : Int)) := fun H1 e Q q =>
  h H1 e _ fun H2 e2 => ⟨a, xs, rfl, .inr (ex_t (e.trans e2) hx), q H2 e2⟩
theorem given_all (n : Nat) (v : Nat → V) : given n (fun _ => true) v = (List.range n).map v := by
  unfold given
  rw [List.filter_eq_self.mpr (fun _ _ => rfl)]
theorem et_yes : EvT tYes σ H true := fun H1 _ _ q => q H1 (Ex.refl H1)
/-- the comprehension over range(n), no test -/
theorem el_lcR {ta : TA} {j : Nat} {vs : List Nat} {n : Int} (v : Nat → V) (h : EvA ta σ H [.int n]) (hn : 0 ≤ n ∧ n ≤ 40000) (hw : ∀ x, wipe ((wipe σ vs).set j (some x)) vs = wipe σ vs)
    (he : ∀ (i : Nat) H1, Ex H H1 → (i : Int) < n → Ev te ((wipe σ vs).set j (some (.int (i : Int)))) H1 (v i)) :
    EvL (tLc (iRng1 ta) (gName j) tYes te vs) σ H ((List.range n.toNat).map v) := by
  rw [← given_all]
  exact el_lcR1 (fun _ => true) v h hn hw (fun _ _ _ _ => et_yes) (fun i H1 e hi _ => he i H1 e hi)
theorem atI_at {α : Type} {xs : List α} {i : Int} {d : α} (h0 : 0 ≤ i) (h1 : i < xs.length) : atI xs i = some (xs.getD i.toNat d) := by
  obtain ⟨j, rfl⟩ : ∃ j : Nat, i = (j : Int) := ⟨i.toNat, by omega⟩
  have hj : j < xs.length := by omega
  rw [atI_nat (v := xs[j]) (by simp [hj]), Int.toNat_natCast]
  simp [List.getD, hj]
end
end Sw
namespace Sw
open PySem PySem.Spec PyProof.Rows L2 Evl
/-! ### instances, methods, calls -/
section
variable {K : PySem.W.Frag} {σ : L2.St} {H H' : Hp} {ta tb te tx : TE} {x y z v : V} {a C dx : Addr} {fs : List (Str × V)} {f m : Str}
/-- the instance at a has the field -/
def Fl (H : Hp) (a C : Addr) (f : Str) (v : V) : Prop := ∃ dx fs, H a = some (.ins C dx fs) ∧ fs.lookup f = some v
/-- the instance at a has no such field -/
def NoF (H : Hp) (a C : Addr) (f : Str) : Prop := ∃ dx fs, H a = some (.ins C dx fs) ∧ fs.lookup f = none
theorem Fl.mono (e : Ex H H') (h : Fl H a C f v) : Fl H' a C f v := let ⟨dx, fs, h1, h2⟩ := h; ⟨dx, fs, e _ _ h1, h2⟩
theorem NoF.mono (e : Ex H H') (h : NoF H a C f) : NoF H' a C f := let ⟨dx, fs, h1, h2⟩ := h; ⟨dx, fs, e _ _ h1, h2⟩
theorem ev_fld (h : Ev ta σ H (.ref a)) (hf : Fl H a C f v) (c : Cls K C) (n : NoAttr K C f) : Ev (tFld K ta f) σ H v := fun H1 e Q q =>
  h H1 e _ fun H2 e2 => let ⟨dx, fs, h1, h2⟩ := hf; ⟨a, C, dx, fs, v, rfl, e2 _ _ (e _ _ h1), c, n, h2, q H2 e2⟩
/-- what a method's promise gives -/
theorem ev_meth {sp : Sp} {dvs vs : List V} {E : XK} {t : TA} (h : Ev ta σ H (.ref a)) (nf : NoF H a C m) (hv : EvA t σ H vs) (hs : SpV sp (.ref a :: (vs ++ dvs)) H z) : Ev (tMeth C m sp dvs E ta t) σ H z := fun H1 e Q q =>
  h H1 e _ fun H2 e2 => let ⟨dx, fs, h1, h2⟩ := nf; ⟨a, dx, fs, rfl, e2 _ _ (e _ _ h1), h2, hv H2 (e.trans e2) _ fun H3 e3 => hs H3 ((e.trans e2).trans e3) Q (fun H4 e4 => q H4 ((e2.trans e3).trans e4)) E⟩
theorem el_meth {sp : Sp} {dvs vs xs : List V} {E : XK} {t : TA} (h : Ev ta σ H (.ref a)) (nf : NoF H a C m) (hv : EvA t σ H vs) (hs : SpL sp (.ref a :: (vs ++ dvs)) H xs) : EvL (tMeth C m sp dvs E ta t) σ H xs := fun H1 e Q q =>
  h H1 e _ fun H2 e2 => let ⟨dx, fs, h1, h2⟩ := nf; ⟨a, dx, fs, rfl, e2 _ _ (e _ _ h1), h2, hv H2 (e.trans e2) _ fun H3 e3 => hs H3 ((e.trans e2).trans e3) Q (fun p H4 hp e4 h4 => q p H4 (fresh_back (e2.trans e3) hp) ((e2.trans e3).trans e4) h4) E⟩
/-- a new tuple -/
def SpU (sp : Sp) (vs : List V) (H : Hp) (xs : List V) : Prop := ∀ H1, Ex H H1 → ∀ Q : VK, (∀ p H2, H1 p = none → Ex H1 H2 → H2 p = some (.tup xs) → Q (.ref p) H2) → ∀ E : XK, sp vs H1 Q E
theorem eu_meth {sp : Sp} {dvs vs xs : List V} {E : XK} {t : TA} (h : Ev ta σ H (.ref a)) (nf : NoF H a C m) (hv : EvA t σ H vs) (hs : SpU sp (.ref a :: (vs ++ dvs)) H xs) : EvU (tMeth C m sp dvs E ta t) σ H xs := fun H1 e Q q =>
  h H1 e _ fun H2 e2 => let ⟨dx, fs, h1, h2⟩ := nf; ⟨a, dx, fs, rfl, e2 _ _ (e _ _ h1), h2, hv H2 (e.trans e2) _ fun H3 e3 => hs H3 ((e.trans e2).trans e3) Q (fun p H4 hp e4 h4 => q p H4 (fresh_back (e2.trans e3) hp) ((e2.trans e3).trans e4) h4) E⟩
theorem eu_call {sp : Sp} {dvs vs xs : List V} {E : XK} {ta : TA} (h : EvA ta σ H vs) (hs : SpU sp (vs ++ dvs) H xs) : EvU (tCall sp dvs E ta) σ H xs := fun H1 e Q q =>
  h H1 e _ fun H2 e2 => hs H2 (e.trans e2) Q (fun p H3 hp e3 h3 => q p H3 (fresh_back e2 hp) (e2.trans e3) h3) E
/-- an item of what a call hands back -/
theorem ev_ixNL {xs : List V} {i : Int} (h : EvL ta σ H xs) (hb : Ev tb σ H (.int i)) (ha : atI xs i = some v) : Ev (tOp (rIxL K) ta tb) σ H v := ev_opL1 h (fun H1 e => hb.mono e) fun p H1 hp _ => rv_ixL (K := K) (sq_of hp) ha
theorem ev_ixNU {xs : List V} {i : Int} (h : EvU ta σ H xs) (hb : Ev tb σ H (.int i)) (ha : atI xs i = some v) : Ev (tOp (rIxT K) ta tb) σ H v := fun H1 e Q q =>
  h H1 e _ fun p H2 _ e2 hp => hb H2 (e.trans e2) _ fun H3 e3 => rv_ixT (K := K) (st_of (e3 p _ hp)) ha H3 (Ex.refl H3) Q fun H4 e4 => q H4 ((e2.trans e3).trans e4)
theorem ev_ixL {p : Addr} {xs : List V} {i : Int} (h : Ev ta σ H (.ref p)) (hx : SqL K H p xs) (hb : Ev tb σ H (.int i)) (ha : atI xs i = some v) : Ev (tOp (rIxL K) ta tb) σ H v := ev_op h hb (rv_ixL hx ha)
theorem ev_ixT {p : Addr} {xs : List V} {i : Int} (h : Ev ta σ H (.ref p)) (hx : SqT K H p xs) (hb : Ev tb σ H (.int i)) (ha : atI xs i = some v) : Ev (tOp (rIxT K) ta tb) σ H v := ev_op h hb (rv_ixT hx ha)
/-- the smaller, the greater of two -/
def rMn : List V → Hp → VK → Prop := fun xs H Q => ∃ i j, xs = [.int i, .int j] ∧ Q (.int (if j < i then j else i)) H
theorem ev_min2 {i j : Int} (ha : Ev ta σ H (.int i)) (hb : Ev tb σ H (.int j)) : Ev (tCB rMn (tCons ta (tCons tb tNil))) σ H (.int (min i j)) := fun H1 e Q q =>
  ha H1 e _ fun H2 e2 => hb H2 (e.trans e2) _ fun H3 e3 => ⟨i, j, rfl, by
    have z : (if j < i then j else i) = min i j := by omega
    rw [z]; exact q H3 (e2.trans e3)⟩
theorem ev_maxi {i j : Int} (ha : Ev ta σ H (.int i)) (hb : Ev tb σ H (.int j)) : Ev (tCB rMax2 (tCons ta (tCons tb tNil))) σ H (.int (max i j)) := by
  have z : (if j > i then j else i) = max i j := by omega
  rw [← z]; exact ev_max2 ha hb
/-- divmod: a new pair -/
def rDm : List V → Hp → VK → Prop := fun xs H Q => ∃ i j, xs = [.int i, .int j] ∧ CDiv i j ∧ ∀ p, H p = none → Q (.ref p) (upd H p (.tup [.int (i / j), .int (i % j)]))
theorem eu_dm {i j : Int} (ha : Ev ta σ H (.int i)) (hb : Ev tb σ H (.int j)) (hc : CDiv i j) : EvU (tCB rDm (tCons ta (tCons tb tNil))) σ H [.int (i / j), .int (i % j)] := fun H1 e Q q =>
  ha H1 e _ fun H2 e2 => hb H2 (e.trans e2) _ fun H3 e3 => ⟨i, j, rfl, hc, fun p hp => q p _ (fresh_back (e2.trans e3) hp) ((e2.trans e3).trans (Ex.new hp)) upd_same⟩
theorem eu_tup {t : TA} {xs : List V} (h : EvA t σ H xs) (hz : xs.length ≤ 100000) : EvU (tTup t) σ H xs := fun H1 e Q q =>
  h H1 e _ fun H2 e2 => ⟨sz_of hz, fun p hp => q p _ (fresh_back e2 hp) (e2.trans (Ex.new hp)) upd_same⟩
theorem el_lst {t : TA} {xs : List V} (h : EvA t σ H xs) (hz : xs.length ≤ 100000) : EvL (tLst t) σ H xs := fun H1 e Q q =>
  h H1 e _ fun H2 e2 => ⟨sz_of hz, fun p hp => q p _ (fresh_back e2 hp) (e2.trans (Ex.new hp)) upd_same⟩
theorem Ev.int_eq {i j : Int} (h : Ev te σ H (.int i)) (e : i = j) : Ev te σ H (.int j) := e ▸ h
/-- a, b = a new pair -/
theorem s_pair {i j : Nat} {D : Ends} {x y : V} (h : EvU te σ H [x, y]) (k : ∀ H1, Ex H H1 → D.nx ((σ.set i (some x)).set j (some y)) H1) : tAsg te (gTup K 2 (gCons (gName i) (gCons (gName j) gNil))) D σ H :=
  h H (Ex.refl H) _ fun p H1 _ e hp => ⟨p, [x, y], rfl, st_of hp, rfl, x, [y], rfl, y, [], rfl, rfl, k H1 e⟩
theorem q_pair {i j : Nat} {D : Ends} {x y : V} {tz : TS} (h : EvU te σ H [x, y]) (k : ∀ H1, Ex H H1 → tz D ((σ.set i (some x)).set j (some y)) H1) : tSeq (tAsg te (gTup K 2 (gCons (gName i) (gCons (gName j) gNil)))) tz D σ H :=
  s_pair (D := { D with nx := tz D }) h k
end
/-! ### the rules with the written part named -/
section
variable {X : Cx}
theorem pe_fldK (K : PySem.W.Frag) {e : Expr} {f : Str} {pos : Pos} {ta : TE} (hK : X.K = K) (he : PE X e ta) (hb : attributeBase e f X.env (eval e X.env) = eval e X.env) : PE X (.Attribute e f pos) (tFld K ta f) := by
  subst hK; exact pe_fld he hb
theorem pi_listK (K : PySem.W.Frag) {tg l : Expr} {tl : TE} (hK : X.K = K) (hl : PE X l tl) : PI X tg l (iList K tl) := by
  subst hK; exact pi_list hl
theorem pi_tupK (K : PySem.W.Frag) {tg l : Expr} {tl : TE} (hK : X.K = K) (hl : PE X l tl) : PI X tg l (iTup K tl) := by
  subst hK; exact pi_tup hl
theorem pi_enumTK (K : PySem.W.Frag) {e : Expr} {ta : TA} {p pos tpos : Pos} {elts : List Expr} {kk : Nat} (hK : X.K = K) (hg : Gl X "enumerate") (hm : X.mg "enumerate" = none) (ha : PA X [e] ta) (hs : starEach [e] X.env = [(false, eval e X.env)] := by rfl) :
    PI X (.Tuple elts kk tpos) (.Call (.Name "enumerate" p) [e] [] pos) (iEnumT K ta) := by
  subst hK; exact pi_enumT hg hm ha hs
theorem pg_tupK (K : PySem.W.Frag) {es : List Expr} {k : Nat} {t : TGs} {n : Nat} {pos : Pos} (hK : X.K = K) (hc : X.calm = true) (h : PGs X es t)
    (hn : (assignEach es X.env).length = n := by rfl) (hst : (assignEach es X.env).findIdx? (·.1) = none := by rfl) : PG X (.Tuple es k pos) (gTup K n t) := by
  subst hK; exact pg_tup hc h hn hst
end
/-! ### the promises' shapes -/
def RetU (xs : List V) (H : Hp) (Q : VK) : Prop := ∀ p H2, H p = none → Ex H H2 → H2 p = some (.tup xs) → Q (.ref p) H2
end Sw
namespace Sw
open PySem PySem.Spec PyProof.Rows L2 Evl
section
variable {K : PySem.W.Frag} {σ : L2.St} {H H' : Hp} {ta tb te tx : TE} {x y z v : V} {a C dx : Addr} {fs : List (Str × V)} {f m : Str} {D : Ends} {tz : TS}
/-- o.f = e -/
theorem q_fld (h : Ev te σ H v) (ho : ∀ H1, Ex H H1 → Ev ta σ H1 (.ref a)) (hx : H a = some (.ins C dx fs)) (c : Cls K C) (n : NoAttr K C f) (hl : fs.length < 1000) (k : ∀ H1, Ex H H1 → tz D σ (upd H1 a (.ins C dx (putF f v fs)))) : tSeq (sFld K ta te f) tz D σ H :=
  h H (Ex.refl H) _ fun H1 e1 => ho H1 e1 H1 (Ex.refl H1) _ fun H2 e2 => ⟨a, C, dx, fs, rfl, e2 _ _ (e1 _ _ hx), c, n, hl, k H2 (e1.trans e2)⟩
theorem s_fld (h : Ev te σ H v) (ho : ∀ H1, Ex H H1 → Ev ta σ H1 (.ref a)) (hx : H a = some (.ins C dx fs)) (c : Cls K C) (n : NoAttr K C f) (hl : fs.length < 1000) (k : ∀ H1, Ex H H1 → D.nx σ (upd H1 a (.ins C dx (putF f v fs)))) : sFld K ta te f D σ H :=
  h H (Ex.refl H) _ fun H1 e1 => ho H1 e1 H1 (Ex.refl H1) _ fun H2 e2 => ⟨a, C, dx, fs, rfl, e2 _ _ (e1 _ _ hx), c, n, hl, k H2 (e1.trans e2)⟩
theorem q_fldL {xs : List V} (h : EvL te σ H xs) (ho : ∀ H1, Ex H H1 → Ev ta σ H1 (.ref a)) (hx : H a = some (.ins C dx fs)) (c : Cls K C) (n : NoAttr K C f) (hl : fs.length < 1000) (k : ∀ p H1, H p = none → Ex H H1 → H1 p = some (.lst xs) → tz D σ (upd H1 a (.ins C dx (putF f (.ref p) fs)))) : tSeq (sFld K ta te f) tz D σ H :=
  h H (Ex.refl H) _ fun p H1 hp e1 h1 => ho H1 e1 H1 (Ex.refl H1) _ fun H2 e2 => ⟨a, C, dx, fs, rfl, e2 _ _ (e1 _ _ hx), c, n, hl, k p H2 hp (e1.trans e2) (e2 _ _ h1)⟩
theorem s_fldL {xs : List V} (h : EvL te σ H xs) (ho : ∀ H1, Ex H H1 → Ev ta σ H1 (.ref a)) (hx : H a = some (.ins C dx fs)) (c : Cls K C) (n : NoAttr K C f) (hl : fs.length < 1000) (k : ∀ p H1, H p = none → Ex H H1 → H1 p = some (.lst xs) → D.nx σ (upd H1 a (.ins C dx (putF f (.ref p) fs)))) : sFld K ta te f D σ H :=
  h H (Ex.refl H) _ fun p H1 hp e1 h1 => ho H1 e1 H1 (Ex.refl H1) _ fun H2 e2 => ⟨a, C, dx, fs, rfl, e2 _ _ (e1 _ _ hx), c, n, hl, k p H2 hp (e1.trans e2) (e2 _ _ h1)⟩
theorem s_fldU {xs : List V} (h : EvU te σ H xs) (ho : ∀ H1, Ex H H1 → Ev ta σ H1 (.ref a)) (hx : H a = some (.ins C dx fs)) (c : Cls K C) (n : NoAttr K C f) (hl : fs.length < 1000) (k : ∀ p H1, H p = none → Ex H H1 → H1 p = some (.tup xs) → D.nx σ (upd H1 a (.ins C dx (putF f (.ref p) fs)))) : sFld K ta te f D σ H :=
  h H (Ex.refl H) _ fun p H1 hp e1 h1 => ho H1 e1 H1 (Ex.refl H1) _ fun H2 e2 => ⟨a, C, dx, fs, rfl, e2 _ _ (e1 _ _ hx), c, n, hl, k p H2 hp (e1.trans e2) (e2 _ _ h1)⟩
/-- the heap, the one object at x forgotten -/
def wo (H : Hp) (x : Addr) : Hp := fun b => if b = x then none else H b
theorem wo_self {H : Hp} {x : Addr} : wo H x x = none := by unfold wo; rw [if_pos rfl]
theorem wo_ne {H : Hp} {x b : Addr} (h : b ≠ x) : wo H x b = H b := by unfold wo; rw [if_neg h]
theorem wo_ex {H : Hp} {x : Addr} : Ex (wo H x) H := fun b o h => by
  by_cases e : b = x
  · rw [e, wo_self] at h; cases h
  · rwa [wo_ne e] at h
theorem wo_t {H : Hp} {x a : Addr} {xs : List V} {o : HO} (hx : H x = some o) (ho : ∀ u v, o ≠ .frz u v) (hn : ∀ ys, o ≠ .tup ys) (h : SqT K H a xs) : SqT K (wo H x) a xs := by
  rcases h with (h | ⟨u, h⟩) | h
  · refine .inl (.inl ?_)
    rw [wo_ne]
    · exact h
    · intro e; rw [e, hx] at h; exact hn xs (Option.some.inj h)
  · refine .inl (.inr ⟨u, ?_⟩)
    rw [wo_ne]
    · exact h
    · intro e; rw [e, hx] at h; exact ho u _ (Option.some.inj h)
  · exact .inr h
end
end Sw
namespace Sw
open PySem PySem.Spec PyProof.Rows L2 Evl
/-! ### walks of three, and of a tuple's items with their numbers -/
section
variable {K : PySem.W.Frag} {σ : L2.St} {H H' : Hp} {ta tb te tx tl : TE} {x y z v : V} {a b c : Addr} {xs ys zs : List V} {n : Nat}
def YTrip (xs ys zs : List V) : Nat → Hp → V → Hp → Prop := fun i H v H' => ∃ T x y z, v = .ref T ∧ H T = none ∧ H' = upd H T (.tup [x, y, z]) ∧ xs[i]? = some x ∧ ys[i]? = some y ∧ zs[i]? = some z
theorem walk_zip3 (lx : xs.length = n) (ly : ys.length = n) (lz : zs.length = n) : Walk (Itz3 K a b c) n (fun H => SqT K H a xs ∧ SqT K H b ys ∧ SqL K H c zs) (YTrip xs ys zs) := by
  refine ⟨fun i _ hi q => ⟨xs, ys, zs, xs[i]'(by omega), ys[i]'(by omega), zs[i]'(by omega), q.1, q.2.1, q.2.2, by simp, by simp, by simp⟩, fun _ q => ⟨xs, ys, zs, q.1, q.2.1, q.2.2, lx, ly, lz⟩, fun i H v H' _ q h => ?_⟩
  obtain ⟨T, x, y, z, h1, h2, h3, h4, h5, h6⟩ := h
  exact ⟨T, x, y, z, h1, h2, h3, h4 xs q.1, h5 ys q.2.1, h6 zs q.2.2⟩
theorem walk_enumT : Walk (IteT K a) xs.length (fun H => SqT K H a xs) (YPair (fun i => some (.int (i : Nat))) (fun i => xs[i]?)) := by
  refine ⟨fun i _ hi q => ⟨xs, xs[i], q, by simp⟩, fun _ q => ⟨xs, q, rfl⟩, fun i H v H' _ q h => ?_⟩
  obtain ⟨T, x, h1, h2, h3, h4⟩ := h
  exact ⟨T, .int (i : Nat), x, h1, h2, h3, rfl, h4 xs q⟩
variable {D : Ends} {tu tz : TS}
theorem q_forZ3 {tt : TA} {j1 j2 j3 : Nat} {G : Hp} (h : EvA tt σ H [.ref a, .ref b, .ref c]) (eG : Ex G H) (hx : SqT K G a xs) (hy : SqT K G b ys) (hz : SqL K G c zs) (lx : xs.length = n) (ly : ys.length = n) (lz : zs.length = n)
    (Pv : Nat → L2.St → Hp → Prop) (h0 : ∀ H1, Ex H H1 → Pv 0 σ H1) (hG : ∀ i σ' H', i ≤ n → Pv i σ' H' → Ex G H')
    (hs : ∀ i x y z σ' H', xs[i]? = some x → ys[i]? = some y → zs[i]? = some z → Pv i σ' H' → ∀ H2, Ex H' H2 → tu { D with nx := Pv (i + 1), ct := Pv (i + 1), bk := tz D } (((σ'.set j1 (some x)).set j2 (some y)).set j3 (some z)) H2)
    (hd : ∀ σ' H', Pv n σ' H' → tz D σ' H') : tSeq (tFor (iZip3 K tt) (gTup K 3 (gCons (gName j1) (gCons (gName j2) (gCons (gName j3) gNil)))) tu) tz D σ H :=
  h H (Ex.refl H) _ fun H1 e1 => ⟨a, b, c, xs, ys, zs, rfl, ex_t (eG.trans e1) hx, ex_t (eG.trans e1) hy, ex_l (eG.trans e1) hz,
    for_it (walk_zip3 lx ly lz) Pv (h0 H1 e1) (fun i σ' H' hi p => ⟨ex_t (hG i σ' H' hi p) hx, ex_t (hG i σ' H' hi p) hy, ex_l (hG i σ' H' hi p) hz⟩)
      (fun i v σ' H' H2 hi p q => by
        obtain ⟨T, x, y, z, rfl, hT, rfl, q1, q2, q3⟩ := q
        exact ⟨T, [x, y, z], rfl, st_of upd_same, rfl, x, [y, z], rfl, y, [z], rfl, z, [], rfl, rfl, hs i x y z σ' H' q1 q2 q3 p _ (Ex.new hT)⟩) hd⟩
/-- for i, x in enumerate(t), t a tuple -/
theorem s_forEnT {tt : TA} {j1 j2 : Nat} (h : EvA tt σ H [.ref a]) (hx : SqT K H a xs)
    (Pv : Nat → L2.St → Hp → Prop) (h0 : ∀ H1, Ex H H1 → Pv 0 σ H1) (hG : ∀ i σ' H', i ≤ xs.length → Pv i σ' H' → Ex H H')
    (hs : ∀ i x σ' H', xs[i]? = some x → Pv i σ' H' → ∀ H2, Ex H' H2 → tu { D with nx := Pv (i + 1), ct := Pv (i + 1), bk := D.nx } ((σ'.set j1 (some (.int (i : Nat)))).set j2 (some x)) H2)
    (hd : ∀ σ' H', Pv xs.length σ' H' → D.nx σ' H') : tFor (iEnumT K tt) (gTup K 2 (gCons (gName j1) (gCons (gName j2) gNil))) tu D σ H :=
  h H (Ex.refl H) _ fun H1 e1 => ⟨a, xs, rfl, ex_t e1 hx,
    for_it walk_enumT Pv (h0 H1 e1) (fun i σ' H' hi p => ex_t (hG i σ' H' hi p) hx)
      (fun i v σ' H' H2 hi p q => by
        obtain ⟨T, x, y, rfl, hT, rfl, q1, q2⟩ := q
        cases q1
        exact ⟨T, [.int (i : Nat), y], rfl, st_of upd_same, rfl, .int (i : Nat), [y], rfl, y, [], rfl, rfl, hs i y σ' H' q2 p _ (Ex.new hT)⟩) hd⟩
/-- [e for i, x in enumerate(t)] -/
theorem el_lcEnT {tt : TA} {j1 j2 : Nat} {vs : List Nat} (v : Nat → V) (h : EvA tt σ H [.ref a]) (hx : SqT K H a xs) (hz : xs.length ≤ 40000)
    (hw : ∀ x y, wipe (((wipe σ vs).set j1 (some x)).set j2 (some y)) vs = wipe σ vs)
    (he : ∀ (i : Nat) (x : V) H1, Ex H H1 → xs[i]? = some x → Ev te (((wipe σ vs).set j1 (some (.int (i : Nat)))).set j2 (some x)) H1 (v i)) :
    EvL (tLc (iEnumT K tt) (gTup K 2 (gCons (gName j1) (gCons (gName j2) gNil))) tYes te vs) σ H ((List.range xs.length).map v) := fun H0 e0 Q q =>
  h H0 e0 _ fun H1 e1 => ⟨a, xs, rfl, ex_t (e0.trans e1) hx, fun Dl hD => by
    rw [← given_all] at q
    refine lc_it (walk_enumT (xs := xs)) (Cw H1 (fun _ => true) v Dl) ⟨hD, Ex.new hD, upd_same⟩ (fun i H' _ p => ex_t ((e0.trans e1).trans p.2.1) hx) (fun i w H' H2 hi p y => ?_) (fun H' p => q Dl H' (fresh_back e1 p.1) (e1.trans p.2.1) p.2.2)
    obtain ⟨T, x, y, rfl, hT, rfl, q1, q2⟩ := y
    cases q1
    have p2 : Cw H1 (fun _ => true) v Dl i (upd H' T (.tup [.int (i : Nat), y])) := ⟨p.1, p.2.1.trans (Ex.new hT), by rw [upd_ne (ne_of_none p.2.2 hT)]; exact p.2.2⟩
    refine ⟨T, [.int (i : Nat), y], rfl, st_of upd_same, rfl, .int (i : Nat), [y], rfl, y, [], rfl, rfl, hw _ _, ?_⟩
    exact cw_turn p2 (by omega) et_yes (fun _ => he i y H1 (e0.trans e1) q2)⟩
/-- some tuple, some list of these items -/
def EvW (K : PySem.W.Frag) (te : TE) (σ : L2.St) (H : Hp) (xs : List V) : Prop := ∀ H1, Ex H H1 → ∀ Q : VK, (∀ p H2, Ex H1 H2 → SqT K H2 p xs → Q (.ref p) H2) → te σ H1 Q
def EvM (K : PySem.W.Frag) (te : TE) (σ : L2.St) (H : Hp) (xs : List V) : Prop := ∀ H1, Ex H H1 → ∀ Q : VK, (∀ p H2, Ex H1 H2 → SqL K H2 p xs → Q (.ref p) H2) → te σ H1 Q
theorem EvU.w (h : EvU te σ H xs) : EvW K te σ H xs := fun H1 e Q q => h H1 e Q fun p H2 _ e2 hp => q p H2 e2 (st_of hp)
theorem EvL.m (h : EvL te σ H xs) : EvM K te σ H xs := fun H1 e Q q => h H1 e Q fun p H2 _ e2 hp => q p H2 e2 (sq_of hp)
theorem ew_of (h : Ev te σ H (.ref a)) (hx : SqT K H a xs) : EvW K te σ H xs := fun H1 e Q q => h H1 e Q fun H2 e2 => q a H2 e2 (ex_t (e.trans e2) hx)
theorem em_of (h : Ev te σ H (.ref a)) (hx : SqL K H a xs) : EvM K te σ H xs := fun H1 e Q q => h H1 e Q fun H2 e2 => q a H2 e2 (ex_l (e.trans e2) hx)
theorem ev_sumW {ns : List Int} (h : EvW K ta σ H (ns.map V.int)) : Ev (tCB (rSumT K) (tCons ta tNil)) σ H (.int ns.sum) := fun H1 e Q q =>
  h H1 e _ fun p H2 e2 h2 => ⟨p, ns, rfl, h2, q H2 e2⟩
theorem ev_sumM {ns : List Int} (h : EvM K ta σ H (ns.map V.int)) : Ev (tCB (rSum K) (tCons ta tNil)) σ H (.int ns.sum) := fun H1 e Q q =>
  h H1 e _ fun p H2 e2 h2 => ⟨p, ns, rfl, h2, q H2 e2⟩
/-- t[:k] -/
theorem ew_take {th : TE} {k : Nat} (h : EvW K te σ H xs) (hk : Ev th σ H (.int (k : Int))) : EvW K (tSl (rSlA K) te tNoPart (tPart th)) σ H (xs.take k) := fun H1 e Q q =>
  h H1 e _ fun p H2 e2 h2 => hk H2 (e.trans e2) _ fun H3 e3 => ⟨(k : Int), rfl, p, xs, rfl, ex_t e3 h2, fun w => by
      have hi : min k xs.length = xs.length := by rw [← HT.sIx_nat xs.length xs.length k]; exact w.2
      have t : xs.take k = xs := List.take_of_length_le (by omega)
      rw [t] at q
      exact q p H3 (e2.trans e3) (ex_t e3 h2), fun _ r hr => by
      refine q r _ ((e2.trans e3).trans (Ex.new hr)) (st_of ?_)
      rw [upd_same]
      unfold cutV
      rw [HT.sIx_none, HT.sIx_nat]
      simp⟩
/-- xs[:k] of a list -/
theorem el_take {th : TE} {k : Nat} (h : EvM K te σ H xs) (hk : Ev th σ H (.int (k : Int))) : EvL (tSl (rSlL K) te tNoPart (tPart th)) σ H (xs.take k) := fun H1 e Q q =>
  h H1 e _ fun p H2 e2 h2 => hk H2 (e.trans e2) _ fun H3 e3 => ⟨(k : Int), rfl, p, xs, rfl, ex_l e3 h2, fun r hr => by
      refine q r _ (fresh_back (e2.trans e3) hr) ((e2.trans e3).trans (Ex.new hr)) ?_
      rw [upd_same]
      unfold cutV
      rw [HT.sIx_none, HT.sIx_nat]
      simp⟩
end
end Sw
namespace Sw
open PySem PySem.Spec PyProof.Rows L2 Evl
/-! ### max of a tuple of numbers -/
section
variable {prog : Program} {w : World} {A : Around} {E : Value → Shared → Prop} {s : Shared} {t : Addr} {xs : Array (Int × Tok)}
theorem max_intTup {Q : Value → Shared → Prop} (hh : A.handled = none) (ht : s.heap.IsTuple t (intItems xs)) (hne : 0 < xs.size)
    (h : ∀ v h' tk, (intItems xs)[argBest (fun i j => decide (numAt xs i > numAt xs j)) (xs.size - 1)]? = some v → (∀ b o, s.heap.get? b = some o → h'.get? b = some o) → Q v { s with heap := h', toks := tk }) :
    wpAny (model prog w) A (call (.builtin "max") [.ref t]) Q E s := by
  obtain ⟨o, ho, _, _, _⟩ := id ht
  have hlt : t < s.heap.objs.size := Heap.lt_size ho
  have hne' : t ≠ s.heap.objs.size := Nat.ne_of_lt hlt
  refine call_max_walk (wpAny_pyIter_tuple ht ?_)
  refine ⟨_, _, _, _, _, _, _, rfl, Walks.tuple (A := A.in1) hh _ t hne' (intItems xs), ⟨⟨_, Heap.get?_push_size _ rfl, rfl, rfl⟩, ht.at fun o e => Heap.get?_push_of_some _ e⟩, fun b hb => ?_, by simpa [intItems] using hne, CmpOf.ints_gt (numAt xs) (fun _ _ => intItems_at), fun v h' tk hP hk => ?_⟩
  · show b < (s.heap.push _).objs.size
    rw [Heap.size_push]
    rcases List.mem_cons.mp hb with rfl | hb
    · exact Nat.lt_succ_self _
    · rw [List.mem_singleton.mp hb]; exact Nat.lt_succ_of_lt hlt
  · refine h v h' tk (by simpa [intItems] using hP) fun b o e => hk b o (fun hm => ?_) (Heap.get?_push_of_some _ e)
    exact absurd (List.mem_singleton.mp hm ▸ Heap.lt_size e) (Nat.lt_irrefl _)
end
section
variable {X : Cx}
def rMaxT (K : PySem.W.Frag) : List V → Hp → VK → Prop := fun vs H Q => ∃ (a : Addr) (ns : List Int), vs = [V.ref a] ∧ SqT K H a (ns.map V.int) ∧ 0 < ns.length ∧ ∀ m, m ∈ ns → (∀ y, y ∈ ns → y ≤ m) → Q (.int m) H
theorem cr_maxT (hc : X.calm = true) : CallR X (.builtin "max") (rMaxT X.K) := by
  intro pins s σ H vs us Q I r h
  obtain ⟨a, ns, rfl, hs, hne, q⟩ := h
  obtain ⟨its, rv, hl, _⟩ := I.tuple hs
  rw [Vals.ref1 r]
  obtain ⟨xs, e⟩ := rv.ints.allInts.items
  have hn : numsOf (intItems xs).toList = ns := by rw [← e]; exact rv.ints.numsOf
  rw [nums_intItems] at hn
  subst hn
  have hl' : s.heap.IsTuple a (intItems xs) := by rw [← e]; exact hl
  have hsz : 0 < xs.size := by simpa using hne
  refine max_intTup (I.ok.hd hc) hl' hsz fun v h' tk hv hk => ?_
  obtain ⟨t', rfl⟩ := intItems_at hv
  obtain ⟨h1, h2⟩ := argBest_gt (numAt xs) (xs.size - 1)
  refine ⟨.int _, H, I.kept hk, ⟨t', rfl⟩, q _ ?_ fun y hy => ?_⟩
  · rw [numAt_eq]; exact PySem.getD_mem (by rw [List.length_map, Array.length_toList]; omega)
  · obtain ⟨j, hj, rfl⟩ := mem_getD hy
    rw [List.length_map, Array.length_toList] at hj
    rw [← numAt_eq]; exact h2 j (by omega)
end
theorem ev_maxT {K : PySem.W.Frag} {σ : L2.St} {H : Hp} {ta : TE} {a : Addr} {ns : List Int} {Qm : Int → Prop} (h : Ev ta σ H (.ref a)) (hx : SqT K H a (ns.map V.int)) (h0 : 0 < ns.length) :
    ∀ H1, Ex H H1 → ∀ Q : VK, (∀ m H2, Ex H1 H2 → m ∈ ns → (∀ y ∈ ns, y ≤ m) → Q (.int m) H2) → tCB (rMaxT K) (tCons ta tNil) σ H1 Q := fun H1 e Q q =>
  h H1 e _ fun H2 e2 => ⟨a, ns, rfl, ex_t (e.trans e2) hx, h0, fun m hm hle => q m H2 e2 hm hle⟩
end Sw
namespace Sw
open PySem PySem.Spec PyProof.Rows L2 Evl
section
variable {K : PySem.W.Frag} {σ : L2.St} {H H' : Hp} {ta tb te tl : TE} {x y z v : V} {a b : Addr} {xs ys : List V}
theorem ev_isN (h : Ev ta σ H x) : Ev (tIsN ta) σ H (.bl (decide (x = .non))) := fun H1 e1 Q q => h H1 e1 _ fun H2 e2 => q H2 e2
theorem ev_eqNil (ha : EvL ta σ H xs) (hb : EvL tb σ H []) (hx : xs = []) : Ev (tOp (rEqD K) ta tb) σ H (.bl true) := ev_opLL ha hb fun p q H1 hp hq _ => fun H2 e2 Q k => by
  subst hx
  exact ⟨.list [], .list [], .lst (sq_of (e2 _ _ hp)) .nil, .lst (sq_of (e2 _ _ hq)) .nil, by decide, by decide, by
    have : PyData.eqv (.list []) (.list []) = true := by decide
    rw [this]; exact k H2 (Ex.refl _)⟩
theorem given_none {n : Nat} {f : Nat → Bool} {v : Nat → V} (h : ∀ i, i < n → f i = false) : given n f v = [] := by
  unfold given
  have : (List.range n).filter f = [] := List.filter_eq_nil_iff.mpr fun i hi => by rw [h i (List.mem_range.mp hi)]; decide
  rw [this]; rfl
/-- two new lists, joined -/
theorem el_catN (ha : EvL ta σ H xs) (hb : EvL tb σ H ys) (hz : xs.length + ys.length ≤ 100000) : EvL (tOp rCat ta tb) σ H (xs ++ ys) := fun H1 e Q q =>
  ha H1 e _ fun p H2 _ e2 hp => hb H2 (e.trans e2) _ fun r H3 _ e3 hr => ⟨p, r, xs, ys, rfl, rfl, e3 _ _ hp, hr, sz_of hz, fun t ht => q t _ (fresh_back (e2.trans e3) ht) ((e2.trans e3).trans (Ex.new ht)) upd_same⟩
theorem el_lcRb {t : TA} {j : Nat} {vs : List Nat} {lo n : Int} (v : Nat → V) (h : EvA t σ H [.int lo, .int n]) (hn : 0 ≤ lo ∧ lo ≤ 10000 ∧ 0 ≤ n ∧ n ≤ 10000) (hw : ∀ x, wipe ((wipe σ vs).set j (some x)) vs = wipe σ vs)
    (he : ∀ (i : Nat) H1, Ex H H1 → lo + (i : Int) < n → Ev te ((wipe σ vs).set j (some (.int (lo + (i : Int))))) H1 (v i)) : EvL (tLc (iRng2 t) (gName j) tYes te vs) σ H ((List.range (n - lo).toNat).map v) := fun H0 e Q q => h H0 e _ fun H1 e1 => by
  rw [← given_all] at q
  exact ⟨lo, n, rfl, ⟨by omega, by omega, by omega, by omega⟩, fun Dl hD =>
    lc_range (lo := lo) (n := (n - lo).toNat) (Cw H1 (fun _ => true) v Dl) ⟨hD, Ex.new hD, upd_same⟩ (fun i H' hi p => ⟨hw _, cw_turn p (by omega) et_yes (fun _ => he i H1 (e.trans e1) (by omega))⟩) (fun H' p => q Dl H' (fresh_back e1 p.1) (e1.trans p.2.1) p.2.2)⟩
end
end Sw
namespace Sw
open PySem PySem.Spec PyProof.Rows L2 Evl
/-- the heap, the objects of N forgotten -/
noncomputable def wn (H : Hp) (N : Addr → Prop) : Hp := fun b => @ite _ (N b) (Classical.propDecidable _) none (H b)
theorem wn_in {H : Hp} {N : Addr → Prop} {b : Addr} (h : N b) : wn H N b = none := by unfold wn; rw [if_pos h]
theorem wn_ni {H : Hp} {N : Addr → Prop} {b : Addr} (h : ¬ N b) : wn H N b = H b := by unfold wn; rw [if_neg h]
theorem wn_some {H : Hp} {N : Addr → Prop} {b : Addr} {o : HO} (h : wn H N b = some o) : ¬ N b ∧ H b = some o := by
  by_cases q : N b
  · rw [wn_in q] at h; cases h
  · rw [wn_ni q] at h; exact ⟨q, h⟩
theorem wn_ex {H : Hp} {N : Addr → Prop} : Ex (wn H N) H := fun _ _ h => (wn_some h).2
theorem wn_mono {H H' : Hp} {N : Addr → Prop} (e : Ex H H') : Ex (wn H N) (wn H' N) := fun b o h => by
  obtain ⟨q, h1⟩ := wn_some h
  rw [wn_ni q]; exact e b o h1
theorem wn_upd {H : Hp} {N : Addr → Prop} {x : Addr} {o : HO} (hx : N x) : Ex (wn H N) (wn (upd H x o) N) := fun b u h => by
  obtain ⟨q, h1⟩ := wn_some h
  have nb : b ≠ x := fun z => q (by rw [z]; exact hx)
  rw [wn_ni q, upd_ne nb]; exact h1
theorem wn_sub {H : Hp} {N M : Addr → Prop} (h : ∀ b, N b → M b) : Ex (wn H M) (wn H N) := fun b o q => by
  obtain ⟨q1, h1⟩ := wn_some q
  rw [wn_ni fun z => q1 (h b z)]; exact h1
theorem wn_t {K : PySem.W.Frag} {H : Hp} {N : Addr → Prop} {a : Addr} {xs : List V} (ha : ¬ N a) (h : SqT K H a xs) : SqT K (wn H N) a xs := by
  rcases h with (h | ⟨u, h⟩) | h
  · exact .inl (.inl (by rw [wn_ni ha]; exact h))
  · exact .inl (.inr ⟨u, by rw [wn_ni ha]; exact h⟩)
  · exact .inr h
def nx (x : Addr) (N : Addr → Prop) : Addr → Prop := fun b => b = x ∨ N b
theorem wn_tx {K : PySem.W.Frag} {H : Hp} {N : Addr → Prop} {x a C dx : Addr} {fs : List (Str × V)} {xs : List V} (hx : H x = some (.ins C dx fs)) (h : SqT K (wn H N) a xs) : SqT K (wn H (nx x N)) a xs := by
  have go : ∀ u, wn H N a = some u → (∀ C dx fs, u ≠ .ins C dx fs) → wn H (nx x N) a = some u := fun u hu hne => by
    obtain ⟨q, h1⟩ := wn_some hu
    rw [wn_ni]
    · exact h1
    · rintro (e | e)
      · rw [e, hx] at h1; exact hne _ _ _ (Option.some.inj h1).symm
      · exact q e
  rcases h with (h | ⟨u, h⟩) | h
  · exact .inl (.inl (go _ h (fun _ _ _ q => nomatch q)))
  · exact .inl (.inr ⟨u, go _ h (fun _ _ _ q => nomatch q)⟩)
  · exact .inr h
end Sw
namespace Sw
open PySem PySem.Spec PyProof.Rows L2 Evl
theorem fnR_of {P : Program} {w : World} {K : PySem.W.Frag} {mg : Str → Option Value} {base : Heap} {CX : CXT} {k : Nat} {f : Addr} {fd : FuncData} {ps : List Str} {sp : Sp} (F : FnOk P w K mg base CX k f fd ps sp) (hb : Binds K fd ps []) : FnR P w K mg base CX k f sp :=
  (F.raw hb .nil).imp fun vs H Q E h => by rw [List.append_nil]; exact h
end Sw
namespace Sw
open PySem PySem.Spec PyProof.Rows L2
/-! ### zip of a list and a tuple; enumerate(list, start=k) -/
def ItzM (K : PySem.W.Frag) (a b : Addr) : It :=
  ⟨fun i H => ∃ (xs ys : List V) (x y : V), SqL K H a xs ∧ SqT K H b ys ∧ xs[i]? = some x ∧ ys[i]? = some y,
    fun i H v H' => ∃ T x y, v = .ref T ∧ H T = none ∧ H' = upd H T (.tup [x, y]) ∧ (∀ xs, SqL K H a xs → xs[i]? = some x) ∧ (∀ ys, SqT K H b ys → ys[i]? = some y),
    fun i H => ∃ xs ys : List V, SqL K H a xs ∧ SqT K H b ys ∧ xs.length = i ∧ ys.length = i⟩
theorem turn_zipM {P : Program} {w : World} {K : PySem.W.Frag} {elts : List Expr} {kk : Nat} {tpos : Pos} {a b z TI TO i1 i2 : Addr}
    (D : ZipSep2 z TI TO i1 i2 [i1, a] [i2, b]) (h1a : a ≠ i1) (h2b : b ≠ i2) :
    Turn P w K (.Tuple elts kk tpos) (ItzM K a b) [z, TI, TO, i1, i2] z (fun i h => IsZip h z TI TO .none ∧ IsTupOf2 h TI (.ref i1) (.ref i2) ∧ (∃ x y, IsTupOf2 h TO x y) ∧ h.IsListIter i1 a i ∧ h.IsTupleIter i2 b i) where
  mem := by simp
  obj := fun i h st d hd => by
    obtain ⟨hz, hTI, ⟨x, y, hTO⟩, ⟨o1, e1, _, d1⟩, ⟨o2, e2, _, d2⟩⟩ := st
    have e' : d = z ∨ d = TI ∨ d = TO ∨ d = i1 ∨ d = i2 := by simpa using hd
    rcases e' with q | q | q | q | q
    · rw [q]; exact ⟨_, hz, fun v q => nomatch q⟩
    · rw [q]; exact ⟨_, hTI, fun v q => nomatch q⟩
    · rw [q]; exact ⟨_, hTO, fun v q => nomatch q⟩
    · rw [q]; exact ⟨o1, e1, fun v q => by rw [d1] at q; cases q⟩
    · rw [q]; exact ⟨o2, e2, fun v q => by rw [d2] at q; cases q⟩
  keep := fun i h h' st k => by
    obtain ⟨hz, hTI, ⟨x, y, hTO⟩, h1, h2⟩ := st
    exact ⟨k z (by simp) _ hz, k TI (by simp) _ hTI, ⟨x, y, k TO (by simp) _ hTO⟩, h1.at fun o q => k i1 (by simp) o q, h2.at fun o q => k i2 (by simp) o q⟩
  item := by
    intro X hP hw hK hc i pins s σ H E I hf st hg
    subst hP hw hK
    obtain ⟨hz, hTI, ⟨x0, y0, hTO⟩, h1, h2⟩ := st
    obtain ⟨xs, ys, x, y, hqx, hqy, hx, hy⟩ := hg
    obtain ⟨its, rv, p, _⟩ := I.list hqx
    obtain ⟨its2, rv2, p2, _⟩ := I.tuple hqy
    obtain ⟨u1, hu1, ru1⟩ := rv.get hx
    obtain ⟨u2, hu2, ru2⟩ := rv2.get hy
    have hh : X.A.in1.handled = none := I.ok.hd hc
    have D1 := Draws.list (prog := X.prog) (w := X.w) (A := X.A.in1) hh i1 a h1a its.toArray
    have D2 := Draws.tuple (prog := X.prog) (w := X.w) (A := X.A.in1) hh i2 b h2b its2.toArray
    have hzl : z < s.heap.objs.size := Heap.lt_size hz
    have lt1 : i < its.toArray.size := by simpa using (List.getElem?_eq_some_iff.mp hu1).1
    have lt2 : i < its2.toArray.size := by simpa using (List.getElem?_eq_some_iff.mp hu2).1
    refine wpAny_pyNext_zipD2_item D D1 D2 hz hTI hTO ⟨h1, p.isList⟩ ⟨h2, p2⟩ lt1 lt2 fun x1 x2 h' tk q1 q2 z' TO' s1' s2' hT hsz hk => ?_
    have e1 : x1 = u1 := by have q : its[i]? = some x1 := by simpa using q1
                            rw [hu1] at q; exact (Option.some.inj q).symm
    have e2 : x2 = u2 := by have q : its2[i]? = some x2 := by simpa using q2
                            rw [hu2] at q; exact (Option.some.inj q).symm
    subst e1 e2
    refine ⟨_, rfl, wpAny_letOwnedTupleGo_zip (s := { s with heap := h', toks := tk }) z' fun h'' z'' sb => ?_⟩
    have hT2 : h''.get? s.heap.objs.size = some { cls := .type "tuple", data := .seq #[x1, x2] } := (sb.2 _ (Nat.ne_of_gt hzl)).trans hT
    have new : ObjOk X.prog X.w (upd H s.heap.objs.size (.tup [x, y])) h'' s.heap.objs.size (.tup [x, y]) :=
      ⟨by show 2 ≤ sizeLine; decide, [x1, x2], .cons ru1 (.cons ru2 .nil), ⟨_, hT2, rfl, _, rfl⟩⟩
    have I1 : Inv X pins σ (upd H s.heap.objs.size (.tup [x, y])) { s with heap := h'', toks := tk } :=
      I.turnedNew (t' := tk) (ch := [z, TI, TO, i1, i2]) (fun d o hb q => (sb.2 d (fun q' => hb (by simp [q']))).trans (hk d o (fun q' => hb (by simp [q'])) (fun q' => hb (by simp [q'])) (fun q' => hb (by simp [q'])) (fun q' => hb (by simp [q'])) q)) hf (Nat.le_refl _) new
    refine ⟨.ref s.heap.objs.size, _, I1, rfl, ⟨_, x, y, rfl, I.hok.fresh (Nat.le_refl _), rfl, fun l hl => by rw [I.list_inj hl hqx]; exact hx, fun l hl => by rw [I.tuple_inj hl hqy]; exact hy⟩, ⟨z'', ?_, ⟨x1, x2, ?_⟩, ?_, ?_⟩, fun d hdm => ?_⟩
    · exact (sb.2 _ D.TIz).trans (hk _ _ D.TIz D.TITO D.TIi1 D.TIi2 hTI)
    · exact (sb.2 _ D.TOz).trans TO'
    · exact s1'.1.at fun o q => (sb.2 _ D.zi1.symm).trans q
    · exact s2'.1.at fun o q => (sb.2 _ D.zi2.symm).trans q
    · have hlt : d < s.heap.objs.size := by
        have e' : d = z ∨ d = TI ∨ d = TO ∨ d = i1 ∨ d = i2 := by simpa using hdm
        rcases e' with q | q | q | q | q
        · rw [q]; exact hzl
        · rw [q]; exact Heap.lt_size hTI
        · rw [q]; exact Heap.lt_size hTO
        · rw [q]; obtain ⟨_, e1, _⟩ := h1; exact Heap.lt_size e1
        · rw [q]; obtain ⟨_, e2, _⟩ := h2; exact Heap.lt_size e2
      rw [upd_ne (Nat.ne_of_lt hlt)]
      exact (hf d hdm).1
  done := by
    intro X hP hw hK hc i pins s σ H E I hf st hg
    subst hP hw hK
    obtain ⟨hz, hTI, ⟨x0, y0, hTO⟩, h1, h2⟩ := st
    obtain ⟨xs, ys, hqx, hqy, l1, l2⟩ := hg
    obtain ⟨its, rv, p, _⟩ := I.list hqx
    obtain ⟨its2, rv2, p2, _⟩ := I.tuple hqy
    have m1 : i = its.toArray.size := by have := rv.length; simp; omega
    have m2 : i = its2.toArray.size := by have := rv2.length; simp; omega
    have hh : X.A.in1.handled = none := I.ok.hd hc
    have D1 := Draws.list (prog := X.prog) (w := X.w) (A := X.A.in1) hh i1 a h1a its.toArray
    have D2 := Draws.tuple (prog := X.prog) (w := X.w) (A := X.A.in1) hh i2 b h2b its2.toArray
    exact wpAny_pyNext_zipD2_end D D1 D2 hz hTI hTO ⟨h1, p.isList⟩ ⟨h2, p2⟩ (Nat.le_of_eq m1) (Nat.le_of_eq m2) (.inl m1) fun h' tk hk => ⟨rfl, I.turnedL (t' := tk) (ch := [z, TI, TO, i1, i2]) (fun d o hb q =>
      hk d o (fun q' => hb (by simp [q'])) (fun q' => hb (by simp [q'])) (fun q' => hb (by simp [q'])) (fun q' => hb (by simp [q'])) q) hf⟩
  self := fun A i s Q E st h => wpAny_pyIter_zip st.1 h
def iZipM (K : PySem.W.Frag) (ta : TA) : TI := fun σ H R => ta σ H fun vs H1 => ∃ a b xs ys, vs = [.ref a, .ref b] ∧ SqL K H1 a xs ∧ SqT K H1 b ys ∧ R (ItzM K a b) H1
theorem pi_zipM (K : PySem.W.Frag) {X : Cx} {e e2 : Expr} {ta : TA} {p pos tpos : Pos} {elts : List Expr} {kk : Nat} (hK : X.K = K) (hg : Gl X "zip") (hm : X.mg "zip" = none) (ha : PA X [e, e2] ta)
    (hs : starEach [e, e2] X.env = (false, eval e X.env) :: starEach [e2] X.env := by rfl) (hpl : (backTo pos (starEach [e2] X.env)).any (·.1) = false := by rfl) :
    PI X (.Tuple elts kk tpos) (.Call (.Name "zip" p) [e, e2] [] pos) (iZipM K ta) := by
  subst hK
  refine ⟨fun pins s σ H R I h => ?_⟩
  refine Call_ (ld_blt I hg hm PyProof.Rows.boot_zip (PyProof.Rows.callWith_type1 (thn (ha.run pos pins s σ H _ I h) fun us s1 ⟨vs, H1, I1, r1, q1⟩ => ?_) hs hpl))
  obtain ⟨a, b, xs, ys, ex, hqx, hqy, q⟩ := q1
  subst ex
  cases r1 with
  | cons r rr =>
    cases rr with
    | cons r' rr =>
      cases rr
      cases r
      cases r'
      obtain ⟨its, rv, p1, _⟩ := I1.list hqx
      obtain ⟨its2, rv2, p2, _⟩ := I1.tuple hqy
      have la : a < s1.heap.objs.size := p1.lt
      have lb : b < s1.heap.objs.size := p2.lt
      refine zip_begins2 (begins_list a its.toArray) (begins_tuple b its2.toArray) p1.isList p2 fun h' hz hTI hTO h1 h2 hsz hk => wpAny_pyIter_zip hz ?_
      have I2 : Inv X pins σ H1 { s1 with heap := h' } := I1.kept (t' := s1.toks) hk
      have sep : ZipSep2 (s1.heap.objs.size + 4) (s1.heap.objs.size + 2) (s1.heap.objs.size + 3) s1.heap.objs.size (s1.heap.objs.size + 1) [s1.heap.objs.size, a] [s1.heap.objs.size + 1, b] :=
        zip_sep2 (N := s1.heap.objs.size) (fp1 := [a]) (fp2 := [b]) (fun d hd => by rw [List.mem_singleton.mp hd]; exact la) (fun d hd => by rw [List.mem_singleton.mp hd]; exact lb)
      refine ⟨s1.heap.objs.size + 4, [s1.heap.objs.size + 4, s1.heap.objs.size + 2, s1.heap.objs.size + 3, s1.heap.objs.size, s1.heap.objs.size + 1], _, _, H1, rfl, I2,
        turn_zipM sep (Nat.ne_of_lt la) (Nat.ne_of_lt (Nat.lt_succ_of_lt lb)), ⟨hz, hTI, ⟨_, _, hTO⟩, ⟨_, h1, rfl, rfl⟩, ⟨_, h2, rfl, rfl⟩⟩, fun d hdm => ?_, q⟩
      have e' : d = s1.heap.objs.size + 4 ∨ d = s1.heap.objs.size + 2 ∨ d = s1.heap.objs.size + 3 ∨ d = s1.heap.objs.size ∨ d = s1.heap.objs.size + 1 := by simpa using hdm
      have hle : s1.heap.objs.size ≤ d := by
        rcases e' with z | z | z | z | z
        · rw [z]; exact Nat.le_add_right _ _
        · rw [z]; exact Nat.le_add_right _ _
        · rw [z]; exact Nat.le_add_right _ _
        · rw [z]; exact Nat.le_refl _
        · rw [z]; exact Nat.le_add_right _ _
      exact I1.fpOk hle (I1.hok.fresh hle)
def ItsF (K : PySem.W.Frag) (c : Int) (a : Addr) : It :=
  ⟨fun i H => ∃ (xs : List V) (x : V), SqL K H a xs ∧ xs[i]? = some x, fun i H v H' => ∃ T x, v = .ref T ∧ H T = none ∧ H' = upd H T (.tup [.int (c + (i : Nat)), x]) ∧ ∀ xs, SqL K H a xs → xs[i]? = some x, fun i H => ∃ xs : List V, SqL K H a xs ∧ xs.length = i⟩
theorem turn_enumF {P : Program} {w : World} {K : PySem.W.Frag} {elts : List Expr} {kk : Nat} {tpos : Pos} (c : Int) (a e it : Addr) (hai : a ≠ it) (hae : e ≠ a) :
    Turn P w K (.Tuple elts kk tpos) (ItsF K c a) [e, it] e (fun i h => (∃ old, IsEnum h e it (c + ((i : Nat) : Int)) old) ∧ h.IsListIter it a i ∧ e ≠ it) where
  mem := by simp
  obj := fun i h st b hb => by
    obtain ⟨⟨old, he⟩, ⟨o, ho, hc, hd⟩, _⟩ := st
    have e' : b = e ∨ b = it := by simpa using hb
    rcases e' with z | z
    · rw [z]; exact ⟨_, he, fun v q => nomatch q⟩
    · rw [z]; exact ⟨o, ho, fun v q => by rw [hd] at q; cases q⟩
  keep := fun i h h' st k => let ⟨⟨old, he⟩, hi, hne⟩ := st; ⟨⟨old, k e (by simp) _ he⟩, hi.at fun o q => k it (by simp) o q, hne⟩
  item := by
    intro X hP hw hK hc i pins s σ H E I hf st hg
    subst hP hw hK
    obtain ⟨⟨old, he⟩, hit, hne⟩ := st
    obtain ⟨xs, x, hq, hx⟩ := hg
    obtain ⟨its, rv, p, hz⟩ := I.list hq
    obtain ⟨u, hu, ru⟩ := rv.get hx
    have hel : e < s.heap.objs.size := Heap.lt_size he
    have hil : it < s.heap.objs.size := by obtain ⟨_, q, _⟩ := hit; exact Heap.lt_size q
    have hh : X.A.in1.handled = none := I.ok.hd hc
    have D1 := Draws.list (prog := X.prog) (w := X.w) (A := X.A.in1) hh it a hai its.toArray
    have lt1 : i < its.toArray.size := by simpa using (List.getElem?_eq_some_iff.mp hu).1
    have hef : e ∉ [it, a] := by simp [hne, hae]
    refine wpAny_pyNext_enum_itemC D1 he ⟨hit, p.isList⟩ lt1 hne hef fun x1 h' tk q1 ho st' hT hsz hk => ?_
    have e1 : x1 = u := by have q : its[i]? = some x1 := by simpa using q1
                           rw [hu] at q; exact (Option.some.inj q).symm
    subst e1
    refine ⟨_, rfl, wpAny_letOwnedTupleGo_enum (s := { s with heap := h', toks := tk + 1 }) ho fun h'' he' sb => ?_⟩
    have hT2 : h''.get? s.heap.objs.size = some { cls := .type "tuple", data := .seq #[.int (c + (i : Int)) tk, x1] } := (sb.2 _ (Nat.ne_of_gt hel)).trans hT
    have new : ObjOk X.prog X.w (upd H s.heap.objs.size (.tup [.int (c + (i : Nat)), x])) h'' s.heap.objs.size (.tup [.int (c + (i : Nat)), x]) :=
      ⟨by show 2 ≤ sizeLine; decide, [.int (c + (i : Int)) tk, x1], .cons ⟨_, rfl⟩ (.cons ru .nil), ⟨_, hT2, rfl, _, rfl⟩⟩
    have I1 : Inv X pins σ (upd H s.heap.objs.size (.tup [.int (c + (i : Nat)), x])) { s with heap := h'', toks := tk + 1 } :=
      I.turnedNew (ch := [e, it]) (fun b ob hb q => (sb.2 b (fun z => hb (by simp [z]))).trans (hk b ob (fun z => hb (by simp [z])) (fun z => hb (by simp [z])) q)) hf (Nat.le_refl _) new
    refine ⟨.ref s.heap.objs.size, _, I1, rfl, ⟨_, x, rfl, I.hok.fresh (Nat.le_refl _), rfl, fun ys hy => by rw [I.list_inj hy hq]; exact hx⟩, ⟨⟨x1, ?_⟩, st'.1.at fun o q => (sb.2 it (Ne.symm hne)).trans q, hne⟩, fun b hb => ?_⟩
    · have e1 : c + ((i + 1 : Nat) : Int) = c + (i : Int) + 1 := by omega
      rw [e1]; exact he'
    · have hb' : b < s.heap.objs.size := by
        have e' : b = e ∨ b = it := by simpa using hb
        rcases e' with z | z
        · rw [z]; exact hel
        · rw [z]; exact hil
      rw [upd_ne (Nat.ne_of_lt hb')]
      exact (hf b hb).1
  done := by
    intro X hP hw hK hc i pins s σ H E I hf st hg
    subst hP hw hK
    obtain ⟨⟨old, he⟩, hit, hne⟩ := st
    obtain ⟨xs, hq, hx⟩ := hg
    obtain ⟨its, rv, p, hz⟩ := I.list hq
    obtain ⟨f0, f1, f2, f3, f4, f5⟩ := hf it (by simp)
    have hh : X.A.in1.handled = none := I.ok.hd hc
    have D1 := Draws.list (prog := X.prog) (w := X.w) (A := X.A.in1) hh it a hai its.toArray
    have m1 : its.toArray.size = i := by have := rv.length; simp; omega
    refine wpAny_pyNext_enum_endD D1 he ⟨by rw [m1]; exact hit, p.isList⟩ fun h' eb => ⟨rfl, I.turned (t' := s.toks) (fun b o hb q => eb b o hb q) f0 f1 f3 f4 f5⟩
  self := fun A i s Q E st h => let ⟨⟨_, he⟩, _⟩ := st; wpAny_pyIter_enum he h

def iEnumF (K : PySem.W.Frag) (c : Int) (ta : TA) : TI := fun σ H R => ta σ H fun vs H1 => ∃ a xs, vs = [.ref a] ∧ SqL K H1 a xs ∧ R (ItsF K c a) H1
theorem callWith_tkw {M : Model} {A : Around} {E : Value → Shared → Prop} {s : Shared} {env : Env} {po : Pos} {T : String} {e : Expr} {kws : List Keyword} {Q : Value → Shared → Prop}
    (h : wpAny M A (spliced (backTo po (starEach [e] env))) (fun vs t => wpAny M A (evalAll ((backToKw po (keywordEach kws env)).map (·.2))) (fun ks t2 => wpAny M A (call (.type T) vs (((backToKw po (keywordEach kws env)).filterMap (·.1)).zip ks)) Q E t2) E t) E s)
    (one : backTo po (starEach [e] env) = (false, eval e env) :: backTo po (starEach [] env)) (flat : (backTo po (starEach [e] env)).any (·.1) = false)
    (named : (backToKw po (keywordEach kws env)).all (·.1.isSome) = true) (none_ : (backToKw po (keywordEach kws env)).any (·.1.isNone) = false) :
    wpAny M A (callWith po (.type T) [] (backTo po (starEach [e] env)) (backToKw po (keywordEach kws env))) Q E s := by
  have main : wpAny M A (evalArgs (.type T) true (backTo po (starEach [e] env)) (backToKw po (keywordEach kws env))) (fun a t => wpAny M A (call (.type T) ([] ++ a.pos) a.kw) Q E t) E s := by
    rw [one] at h ⊢
    exact evalArgs_kwB named h
  unfold callWith
  refine wpAny_bind (wpAny_holding (wpAny_mono main (fun a t ht => wpAny_bind (wpAny_standAt ?_)) fun _ _ x => x))
  simp only [flat, none_, Bool.or_false]
  exact wpAny_bind (wpAny_pure (wpAny_bind (wpAny_mono ht (fun r t2 hr => wpAny_bind (wpAny_holding (wpAny_point (wpAny_pure hr)))) fun _ _ x => x)))
theorem pi_enumF (K : PySem.W.Frag) {X : Cx} {e : Expr} {ta : TA} {c : Int} {j : Nat} {p pos tpos kp cp : Pos} {elts : List Expr} {kk : Nat} (hK : X.K = K) (hg : Gl X "enumerate") (hm : X.mg "enumerate" = none) (ha : PA X [e] ta) (c0 : -1000 ≤ c) (c1 : c ≤ 1000)
    (hs : backTo pos (starEach [e] X.env) = (false, eval e X.env) :: backTo pos (starEach [] X.env) := by rfl) (hf : (backTo pos (starEach [e] X.env)).any (·.1) = false := by rfl)
    (he : eval (.Call (.Name "enumerate" p) [e] [⟨some "start", .Constant (.int c) j cp, kp⟩] pos) X.env = (do callWith pos (← eval (.Name "enumerate" p) X.env) [] (backTo pos (starEach [e] X.env)) (backToKw pos (keywordEach [⟨some "start", .Constant (.int c) j cp, kp⟩] X.env))) := by rfl) :
    PI X (.Tuple elts kk tpos) (.Call (.Name "enumerate" p) [e] [⟨some "start", .Constant (.int c) j cp, kp⟩] pos) (iEnumF K c ta) := by
  subst hK
  refine ⟨fun pins s σ H R I h => ?_⟩
  rw [he]
  refine wpAny_bind (ld_blt I hg hm boot_enumerate (callWith_tkw ?_ hs hf rfl rfl))
  refine thn (ha.run pos pins s σ H _ I h) fun us s1 ⟨vs, H1, I1, r1, q1⟩ => ?_
  obtain ⟨a, xs, ex, hq, q⟩ := q1
  subst ex
  cases r1 with
  | cons r rr =>
    cases rr
    cases r
    refine kws_cons ?_
    refine wpAny_Constant_int ?_
    refine kws_nil ?_
    have I1 := I1.tok (s1.toks + 1)
    generalize ht1 : ({ s1 with toks := s1.toks + 1 } : Shared) = t1 at I1 ⊢
    obtain ⟨its, rv, p', hz⟩ := I1.list hq
    have la : a < t1.heap.objs.size := p'.lt
    show wpAny _ _ (call (.type "enumerate") [.ref a] [(Str.ofString "start", .int c s1.toks)]) _ _ t1
    refine enum_begins_start (begins_list a its.toArray) p'.isList (by omega) (by omega) fun h' he hit hsz hk => wpAny_pyIter_enum he ?_
    have I2 : Inv X pins σ H1 { t1 with heap := h' } := I1.kept (t' := t1.toks) hk
    have he0 : IsEnum h' (t1.heap.objs.size + 1) t1.heap.objs.size (c + ((0 : Nat) : Int)) .none := by
      have z : c + ((0 : Nat) : Int) = c := by omega
      rw [z]; exact he
    refine ⟨t1.heap.objs.size + 1, [t1.heap.objs.size + 1, t1.heap.objs.size], _, _, H1, rfl, I2, turn_enumF c a (t1.heap.objs.size + 1) t1.heap.objs.size (Nat.ne_of_lt la) (Nat.ne_of_gt (Nat.lt_succ_of_lt la)), ⟨⟨.none, he0⟩, ⟨_, hit, rfl, rfl⟩, Nat.succ_ne_self _⟩, fun b hb => ?_, q⟩
    have e' : b = t1.heap.objs.size + 1 ∨ b = t1.heap.objs.size := by simpa using hb
    have hle : t1.heap.objs.size ≤ b := by
      rcases e' with z | z
      · rw [z]; exact Nat.le_add_right _ _
      · rw [z]; exact Nat.le_refl _
    exact I1.fpOk hle (I1.hok.fresh hle)
end Sw
namespace GnX
open PySem PySem.Spec PyProof.Rows L2 GenW
open Sem (wp)
/-! ### what runs beside sleeping generators leaves them as they are -/
def stubK : Resume → Sem PySem.Fin := fun _ => .unsupported "asleep"
def stub : GenState → GenState
  | .suspended _ l c p fs cl => .suspended stubK l c p fs cl
  | x => x
theorem stub_bare (x : GenState) : (stub x).bare = x.bare := by cases x <;> rfl
/-- frames without a generator's own -/
def NG (fs : List Frame) : Prop := splitAtGen fs = none
theorem ng_cons {F : Frame} {fs : List Frame} (h : NG (F :: fs)) : NG fs ∧ ∀ g k l c p, F ≠ .gen g k l c p := by
  unfold NG at *
  cases F with
  | gen g k l c p => simp only [splitAtGen] at h; cases h
  | ret k h2 g l c p kp =>
    simp only [splitAtGen, Option.map_eq_none_iff] at h
    exact ⟨h, fun _ _ _ _ _ z => by cases z⟩
theorem ng_app : ∀ {a b : List Frame}, NG a → NG b → NG (a ++ b)
  | [], _, _, hb => hb
  | F :: a, b, ha, hb => by
    obtain ⟨h1, h2⟩ := ng_cons ha
    have ih := ng_app h1 hb
    cases F with
    | gen g k l c p => exact absurd rfl (h2 g k l c p)
    | ret k h3 g l c p kp =>
      unfold NG at *
      show splitAtGen (.ret k h3 g l c p kp :: (a ++ b)) = none
      simp only [splitAtGen, Option.map_eq_none_iff]
      exact ih
theorem ng_nil : NG [] := rfl
theorem ng_ret {k h g l c p kp} : NG [.ret k h g l c p kp] := rfl
def unG (ρ : Nat → Option GenState) (G : Array GenState) : Array GenState := G.mapIdx fun i x => (ρ i).getD x
def un (ρ : Nat → Option GenState) (s : Shared) : Shared := { s with gens := unG ρ s.gens }
theorem unG_get {ρ : Nat → Option GenState} {G : Array GenState} {i : Nat} : (unG ρ G)[i]? = (G[i]?).map fun x => (ρ i).getD x := by
  unfold unG
  simp
theorem unG_size {ρ : Nat → Option GenState} {G : Array GenState} : (unG ρ G).size = G.size := by unfold unG; simp
theorem unG_none {ρ : Nat → Option GenState} {G : Array GenState} {i : Nat} (h : ρ i = none) : (unG ρ G)[i]? = G[i]? := by
  rw [unG_get, h]
  cases G[i]? <;> rfl
theorem un_set {ρ : Nat → Option GenState} {s : Shared} {g : Nat} {x : GenState} (h : ρ g = none) : un ρ (s.setGen g x) = (un ρ s).setGen g x := by
  have e : unG ρ (s.gens.setIfInBounds g x) = (unG ρ s.gens).setIfInBounds g x := by
    refine Array.ext_getElem? fun i => ?_
    rw [unG_get]
    by_cases hi : g = i
    · subst hi
      rw [Array.getElem?_setIfInBounds_self, Array.getElem?_setIfInBounds_self, unG_size]
      by_cases hg : g < s.gens.size
      · rw [if_pos hg, h]; rfl
      · rw [if_neg hg]; rfl
    · rw [Array.getElem?_setIfInBounds_ne hi, Array.getElem?_setIfInBounds_ne hi, unG_get]
  show ({ s.setGen g x with gens := unG ρ (s.gens.setIfInBounds g x) } : Shared) = _
  rw [e]
  rfl
theorem unG_push {ρ : Nat → Option GenState} {G : Array GenState} {x : GenState} (h : ρ G.size = none) : unG ρ (G.push x) = (unG ρ G).push x := by
  refine Array.ext_getElem? fun i => ?_
  rw [unG_get, Array.getElem?_push, Array.getElem?_push, unG_size]
  by_cases hi : i = G.size
  · subst hi
    rw [if_pos rfl, if_pos rfl, h]; rfl
  · rw [if_neg hi, if_neg hi, unG_get]
/-- those at ρ sleep on; all others' frames are plain -/
structure StO (ρ : Nat → Option GenState) (G : Array GenState) : Prop where
  st : ∀ i y, ρ i = some y → ∃ k l c p fs cl, y = .suspended k l c p fs cl ∧ G[i]? = some (.suspended stubK l c p fs cl)
  good : ∀ i k l c p fs cl, ρ i = none → G[i]? = some (.suspended k l c p fs cl) → NG fs
theorem StO.size {ρ : Nat → Option GenState} {G : Array GenState} (h : StO ρ G) : ρ G.size = none := by
  cases e : ρ G.size with
  | none => rfl
  | some y =>
    obtain ⟨_, _, _, _, _, _, _, q⟩ := h.st _ y e
    rw [Array.getElem?_eq_none (Nat.le_refl _)] at q
    cases q
theorem StO.push {ρ : Nat → Option GenState} {G : Array GenState} {c : Code} (h : StO ρ G) : StO ρ (G.push (.fresh c)) := by
  refine ⟨fun i y e => ?_, fun i k l c' p fs cl e q => ?_⟩
  · obtain ⟨k, l, c', p, fs, cl, ey, q⟩ := h.st i y e
    refine ⟨k, l, c', p, fs, cl, ey, ?_⟩
    have hi : i < G.size := (Array.getElem?_eq_some_iff.mp q).1
    rw [Array.getElem?_push, if_neg (Nat.ne_of_lt hi)]
    exact q
  · rw [Array.getElem?_push] at q
    by_cases hi : i = G.size
    · rw [if_pos hi] at q; cases q
    · rw [if_neg hi] at q; exact h.good i k l c' p fs cl e q
theorem StO.set {ρ : Nat → Option GenState} {s : Shared} {g : Nat} {x : GenState} (h : StO ρ s.gens) (hg : ρ g = none) (hx : ∀ k l c p fs cl, x = .suspended k l c p fs cl → NG fs) : StO ρ (s.setGen g x).gens := by
  have get : ∀ i, (s.setGen g x).gens[i]? = if g = i then (if g < s.gens.size then some x else none) else s.gens[i]? := fun i => by
    show (s.gens.setIfInBounds g x)[i]? = _
    by_cases hi : g = i
    · subst hi
      rw [if_pos rfl, Array.getElem?_setIfInBounds_self]
    · rw [if_neg hi, Array.getElem?_setIfInBounds_ne hi]
  refine ⟨fun i y e => ?_, fun i k l c' p fs cl e q => ?_⟩
  · obtain ⟨k, l, c', p, fs, cl, ey, q⟩ := h.st i y e
    refine ⟨k, l, c', p, fs, cl, ey, ?_⟩
    have hi : g ≠ i := fun z => by rw [← z, hg] at e; cases e
    rw [get, if_neg hi]
    exact q
  · rw [get] at q
    by_cases hi : g = i
    · rw [if_pos hi] at q
      by_cases hs : g < s.gens.size
      · rw [if_pos hs] at q
        exact hx k l c' p fs cl (Option.some.inj q)
      · rw [if_neg hs] at q; cases q
    · rw [if_neg hi] at q; exact h.good i k l c' p fs cl e q
theorem no_unsupported {M : Model} {Γ : PySem.Ctx} {p : Pos} {w : String} {fs : List Frame} {s s' : Shared} {e : End} (h : Runs M Γ p (.unsupported w) fs s e s') : False := by
  generalize ht : (Sem.unsupported w : Sem PySem.Fin) = t at h
  induction h with
  | segRet _ _ ih1 _ => exact ih1 ht
  | segGen _ _ ih1 _ => exact ih1 ht
  | segSuspOut _ _ ih => exact ih ht
  | segSuspGen _ _ _ _ ih1 _ => exact ih1 ht
  | _ => cases ht
theorem StO.awake {ρ : Nat → Option GenState} {s : Shared} {g : Nat} {x : GenState} (h : StO ρ s.gens) (hg : s.gens[g]? = some x) (hx : ∀ k l c p fs cl, x ≠ .suspended k l c p fs cl) : ρ g = none ∧ (un ρ s).gens[g]? = some x := by
  have e0 : ρ g = none := by
    cases e0 : ρ g with
    | none => rfl
    | some y =>
      obtain ⟨_, _, _, _, _, _, _, q⟩ := h.st g y e0
      rw [hg] at q
      exact absurd (Option.some.inj q) (hx _ _ _ _ _ _)
  exact ⟨e0, by show (unG ρ s.gens)[g]? = _; rw [unG_none e0]; exact hg⟩
theorem StO.seen {ρ : Nat → Option GenState} {s : Shared} {g : Nat} {x : GenState} (h : StO ρ s.gens) (hg : s.gens[g]? = some x) : ∃ y, (un ρ s).gens[g]? = some y ∧ y.seen = x.seen := by
  cases e0 : ρ g with
  | none => exact ⟨x, by show (unG ρ s.gens)[g]? = _; rw [unG_none e0]; exact hg, rfl⟩
  | some y =>
    obtain ⟨k1, l1, c1, p1, fs1, cl1, ey, q⟩ := h.st g y e0
    rw [hg] at q
    cases q
    refine ⟨y, by show (unG ρ s.gens)[g]? = _; rw [unG_get, hg, e0]; rfl, ?_⟩
    rw [ey]
    rfl
/-- the end's frames are plain -/
def NGE : End → Prop
  | .susp _ _ _ _ _ _ fs => NG fs
  | _ => True
theorem nge_state {e : End} (h : NGE e) : ∀ k l c p fs cl, e.genState = .suspended k l c p fs cl → NG fs := by
  intro k l c p fs cl q
  cases e with
  | ret r => cases q
  | susp v g l0 k0 c0 p0 fs0 => cases q; exact h
theorem runs_un {M : Model} {ρ : Nat → Option GenState} {Γ : PySem.Ctx} {p : Pos} {t : Sem PySem.Fin} {fs : List Frame} {s s' : Shared} {e : End} (h : Runs M Γ p t fs s e s') :
    NG fs → StO ρ s.gens → Runs M Γ p t fs (un ρ s) e (un ρ s') ∧ StO ρ s'.gens ∧ NGE e := by
  induction h with
  | done => exact fun _ st => ⟨.done, st, trivial⟩
  | raise => exact fun _ st => ⟨.raise, st, trivial⟩
  | again hq _ ih => exact fun n st => let ⟨a, b, c⟩ := ih n st; ⟨.again hq a, b, c⟩
  | rule _ ih => exact fun n st => let ⟨a, b, c⟩ := ih n st; ⟨.rule a, b, c⟩
  | «at» _ ih => exact fun n st => let ⟨a, b, c⟩ := ih n st; ⟨.at a, b, c⟩
  | load ho _ ih => exact fun n st => let ⟨a, b, c⟩ := ih n st; ⟨.load ho a, b, c⟩
  | update ho _ ih => exact fun n st => let ⟨a, b, c⟩ := ih n st; ⟨.update ho a, b, c⟩
  | loadIfAlive _ ih => exact fun n st => let ⟨a, b, c⟩ := ih n st; ⟨.loadIfAlive a, b, c⟩
  | point _ ih => exact fun n st => let ⟨a, b, c⟩ := ih n st; ⟨.point a, b, c⟩
  | alloc _ ih => exact fun n st => let ⟨a, b, c⟩ := ih n st; ⟨.alloc a, b, c⟩
  | fresh _ ih => exact fun n st => let ⟨a, b, c⟩ := ih n st; ⟨.fresh a, b, c⟩
  | ask _ ih => exact fun n st => let ⟨a, b, c⟩ := ih n st; ⟨.ask a, b, c⟩
  | choose hn _ ih => exact fun n st => let ⟨a, b, c⟩ := ih n st; ⟨.choose hn a, b, c⟩
  | os _ ih => exact fun n st => let ⟨a, b, c⟩ := ih n st; ⟨.os a, b, c⟩
  | handled _ ih => exact fun n st => let ⟨a, b, c⟩ := ih n st; ⟨.handled a, b, c⟩
  | stack _ ih => exact fun n st => let ⟨a, b, c⟩ := ih n st; ⟨.stack a, b, c⟩
  | thread _ ih => exact fun n st => let ⟨a, b, c⟩ := ih n st; ⟨.thread a, b, c⟩
  | genState hg _ ih =>
    intro n st
    obtain ⟨a, b, c⟩ := ih n st
    obtain ⟨y, hy, es⟩ := st.seen hg
    exact ⟨.genState hy (by rw [es]; exact a), b, c⟩
  | newGen _ ih =>
    intro n st
    obtain ⟨a, b, c⟩ := ih n st.push
    refine ⟨.newGen ?_, b, c⟩
    show Runs _ _ _ _ _ { un ρ _ with gens := (unG ρ _).push _ } _ _
    rw [← unG_push st.size]
    rw [show (un ρ _).gens.size = _ from unG_size]
    exact a
  | call _ _ ih1 ih2 =>
    intro n st
    obtain ⟨a1, b1, _⟩ := ih1 ng_nil st
    obtain ⟨a2, b2, c2⟩ := ih2 n b1
    exact ⟨.call a1 a2, b2, c2⟩
  | callSusp _ ih =>
    intro n st
    obtain ⟨a, b, c⟩ := ih ng_nil st
    exact ⟨.callSusp a, b, ng_app c ng_ret⟩
  | yield => exact fun _ st => ⟨.yield, st, ng_nil⟩
  | resumeFresh hg _ hq _ ih1 ih2 =>
    intro n st
    obtain ⟨e0, e1⟩ := st.awake hg fun _ _ _ _ _ _ z => by cases z
    obtain ⟨a1, b1, c1⟩ := ih1 ng_nil (st.set e0 fun _ _ _ _ _ _ z => by cases z)
    obtain ⟨a2, b2, c2⟩ := ih2 n (b1.set e0 (nge_state c1))
    rw [un_set e0] at a1 a2
    exact ⟨.resumeFresh e1 a1 hq a2, b2, c2⟩
  | @resumeSuspended Γ p g r l k s k₀ l₀ c₀ p₀ fs cl e₁ s₁ e s' hg h1 hq _ ih1 ih2 =>
    intro n st
    cases e0 : ρ g with
    | some y =>
      obtain ⟨k1, l1, c1, p1, fs1, cl1, ey, q⟩ := st.st g y e0
      rw [hg] at q
      cases q
      exact (no_unsupported h1).elim
    | none =>
      obtain ⟨a1, b1, c1⟩ := ih1 (st.good g _ _ _ _ _ _ e0 hg) (st.set e0 fun _ _ _ _ _ _ z => by cases z)
      obtain ⟨a2, b2, c2⟩ := ih2 n (b1.set e0 (nge_state c1))
      rw [un_set e0] at a1 a2
      exact ⟨.resumeSuspended (by show (unG ρ s.gens)[g]? = _; rw [unG_none e0]; exact hg) a1 hq a2, b2, c2⟩
  | resumeJustStarted hg hv _ ih =>
    intro n st
    obtain ⟨a, b, c2⟩ := ih n st
    obtain ⟨e0, e1⟩ := st.awake hg fun _ _ _ _ _ _ z => by cases z
    exact ⟨.resumeJustStarted e1 hv a, b, c2⟩
  | resumeThrowFresh hg _ ih =>
    intro n st
    obtain ⟨e0, e1⟩ := st.awake hg fun _ _ _ _ _ _ z => by cases z
    obtain ⟨a, b, c2⟩ := ih n (st.set e0 fun _ _ _ _ _ _ z => by cases z)
    rw [un_set e0] at a
    exact ⟨.resumeThrowFresh e1 a, b, c2⟩
  | resumeRunning hg _ ih =>
    intro n st
    obtain ⟨a, b, c2⟩ := ih n st
    obtain ⟨e0, e1⟩ := st.awake hg fun _ _ _ _ _ _ z => by cases z
    exact ⟨.resumeRunning e1 a, b, c2⟩
  | resumeFinished hg _ ih =>
    intro n st
    obtain ⟨a, b, c2⟩ := ih n st
    obtain ⟨e0, e1⟩ := st.awake hg fun _ _ _ _ _ _ z => by cases z
    exact ⟨.resumeFinished e1 a, b, c2⟩
  | segRet _ _ ih1 ih2 =>
    intro n st
    obtain ⟨a1, b1, _⟩ := ih1 ng_nil st
    obtain ⟨a2, b2, c2⟩ := ih2 (ng_cons n).1 b1
    exact ⟨.segRet a1 a2, b2, c2⟩
  | segGen _ _ ih1 ih2 => exact fun n _ => absurd rfl ((ng_cons n).2 _ _ _ _ _)
  | segSuspOut hs _ ih =>
    intro n st
    obtain ⟨a, b, c⟩ := ih ng_nil st
    exact ⟨.segSuspOut hs a, b, ng_app c n⟩
  | segSuspGen hs _ _ _ ih1 ih2 =>
    intro n _
    rw [show splitAtGen _ = none from n] at hs
    cases hs
theorem wp_un {α : Type} (M : Model) (ρ : Nat → Option GenState) (t : Sem α) : ∀ (Γ : PySem.Ctx) (Q : α → Pos → Shared → Prop) (E : Value → Pos → Shared → Prop) (p : Pos) (s : Shared), StO ρ s.gens → wp M Γ t Q E p s →
    wp M Γ t (fun a p' s' => ∃ s2, s' = un ρ s2 ∧ StO ρ s2.gens ∧ Q a p' s2) (fun e p' s' => ∃ s2, s' = un ρ s2 ∧ StO ρ s2.gens ∧ E e p' s2) p (un ρ s) := by
  induction t with
  | pure a => intro Γ Q E p s st h; exact ⟨s, rfl, st, h⟩
  | raise e => intro Γ Q E p s st h; exact ⟨s, rfl, st, h⟩
  | unsupported _ => intro Γ Q E p s _ h; exact h
  | finish _ => intro Γ Q E p s _ h; exact h
  | rule _ k ih => intro Γ Q E p s st h; exact ih () Γ Q E p s st h
  | «at» p' k ih => intro Γ Q E p s st h; exact ih () Γ Q E p' s st h
  | load a _ k ih => intro Γ Q E p s st h; obtain ⟨o, ho, h⟩ := h; exact ⟨o, ho, ih o Γ Q E p s st h⟩
  | update a _ f k ih => intro Γ Q E p s st h; exact ⟨h.1, ih () Γ Q E p { s with heap := s.heap.update a f } st h.2⟩
  | loadIfAlive a k ih => intro Γ Q E p s st h; exact ih _ Γ Q E p s st h
  | point _ k ih => intro Γ Q E p s st h; exact ih () Γ Q E p s st h
  | register _ _ => intro Γ Q E p s _ h; exact h
  | alloc o k ih => intro Γ Q E p s st h; exact ih _ Γ Q E p { s with heap := s.heap.push o } st h
  | fresh k ih => intro Γ Q E p s st h; exact ih _ Γ Q E p { s with toks := s.toks + 1 } st h
  | ask k ih => intro Γ Q E p s st h; exact ih _ Γ Q E p s st h
  | choose src m k ih => intro Γ Q E p s st h; exact ⟨h.1, ih _ Γ Q E p { s with drawn := s.drawn.bump src } st h.2⟩
  | os q _ k ih => intro Γ Q E p s st h; exact ih _ Γ Q E p { s with os := (Os.step s.os q).1 } st h
  | call c hd _ _ k ih =>
    intro Γ Q E p s st h
    obtain ⟨r, s', hr, h⟩ := h
    obtain ⟨a, b, _⟩ := runs_un hr ng_nil st
    exact ⟨r, un ρ s', a, ih r Γ Q E p s' b h⟩
  | handled own k ih => intro Γ Q E p s st h; exact ih _ Γ Q E p s st h
  | genState g k ih =>
    intro Γ Q E p s st h
    obtain ⟨x, hs, h⟩ := h
    cases e0 : ρ g with
    | none => exact ⟨x, by show (unG ρ s.gens)[g]? = _; rw [unG_none e0]; exact hs, ih _ Γ Q E p s st h⟩
    | some y =>
      obtain ⟨k1, l1, c1, p1, fs1, cl1, ey, q⟩ := st.st g y e0
      rw [hs] at q
      cases q
      refine ⟨y, by show (unG ρ s.gens)[g]? = _; rw [unG_get, hs, e0]; rfl, ?_⟩
      rw [ey]
      exact ih _ Γ Q E p s st h
  | newGen c k ih =>
    intro Γ Q E p s st h
    have q := ih s.gens.size Γ Q E p { s with gens := s.gens.push (.fresh c) } st.push h
    show wp M Γ (k (unG ρ s.gens).size) _ _ p { un ρ s with gens := (unG ρ s.gens).push (.fresh c) }
    rw [unG_size, ← unG_push st.size]
    exact q
  | resume g r _ k ih =>
    intro Γ Q E p s st h
    obtain ⟨res, s', hw, h⟩ := h
    cases e0 : ρ g with
    | some y =>
      obtain ⟨k1, l1, c1, p1, fs1, cl1, ey, q⟩ := st.st g y e0
      unfold Wakes at hw
      rw [q] at hw
      obtain ⟨_, _, hr, _⟩ := hw
      exact (no_unsupported hr).elim
    | none =>
      have eg : (unG ρ s.gens)[g]? = s.gens[g]? := unG_none e0
      unfold Wakes at hw
      cases hq : s.gens[g]? with
      | none => rw [hq] at hw; exact hw.elim
      | some x =>
        rw [hq] at hw
        have eg' : (un ρ s).gens[g]? = some x := eg.trans hq
        cases x with
        | fresh c =>
          cases r with
          | throw x =>
            obtain ⟨rfl, rfl⟩ := hw
            refine ⟨_, un ρ (s.setGen g .finished), ?_, ih _ Γ Q E p (s.setGen g .finished) (st.set e0 fun _ _ _ _ _ _ z => by cases z) h⟩
            unfold Wakes
            rw [eg']
            exact ⟨rfl, un_set e0⟩
          | send v =>
            cases v with
            | none =>
              obtain ⟨e1, s1, hr, hq1, rfl, rfl⟩ := hw
              obtain ⟨a, b, c1⟩ := runs_un hr ng_nil (st.set e0 fun _ _ _ _ _ _ z => by cases z)
              rw [un_set e0] at a
              refine ⟨_, _, ?_, ih _ Γ Q E p (s1.setGen g e1.genState) (b.set e0 (nge_state c1)) h⟩
              unfold Wakes
              rw [eg']
              exact ⟨e1, un ρ s1, a, hq1, rfl, un_set e0⟩
            | _ =>
              obtain ⟨rfl, rfl⟩ := hw
              refine ⟨_, un ρ s', ?_, ih _ Γ Q E p s' st h⟩
              unfold Wakes
              rw [eg']
              exact ⟨rfl, rfl⟩
        | suspended k1 l1 c1 p1 fs1 cl1 =>
          obtain ⟨e1, s1, hr, hq1, rfl, rfl⟩ := hw
          obtain ⟨a, b, c1⟩ := runs_un hr (st.good g _ _ _ _ _ _ e0 hq) (st.set e0 fun _ _ _ _ _ _ z => by cases z)
          rw [un_set e0] at a
          refine ⟨_, _, ?_, ih _ Γ Q E p (s1.setGen g e1.genState) (b.set e0 (nge_state c1)) h⟩
          unfold Wakes
          rw [eg']
          exact ⟨e1, un ρ s1, a, hq1, rfl, un_set e0⟩
        | running =>
          obtain ⟨rfl, rfl⟩ := hw
          refine ⟨_, un ρ s', ?_, ih _ Γ Q E p s' st h⟩
          unfold Wakes
          rw [eg']
          exact ⟨rfl, rfl⟩
        | finished =>
          obtain ⟨rfl, rfl⟩ := hw
          refine ⟨_, un ρ s', ?_, ih _ Γ Q E p s' st h⟩
          unfold Wakes
          rw [eg']
          exact ⟨rfl, rfl⟩
  | yield _ _ _ _ => intro Γ Q E p s _ h; exact h
  | stack k ih => intro Γ Q E p s st h; exact ih _ Γ Q E p s st h
  | fork _ _ => intro Γ Q E p s _ h; exact h
  | thread k ih => intro Γ Q E p s st h; exact ih _ Γ Q E p s st h
  | await _ _ _ _ _ => intro Γ Q E p s _ h; exact h
def sleepers (G : Array GenState) : Nat → Option GenState := fun i => match G[i]? with
  | some (.suspended k l c p fs cl) => some (.suspended k l c p fs cl)
  | _ => none
def lulled (s : Shared) : Shared := { s with gens := s.gens.map stub }
theorem lulled_un (s : Shared) : un (sleepers s.gens) (lulled s) = s := by
  have e : unG (sleepers s.gens) (s.gens.map stub) = s.gens := by
    refine Array.ext_getElem? fun i => ?_
    rw [unG_get, Array.getElem?_map]
    unfold sleepers
    cases s.gens[i]? with
    | none => rfl
    | some x => cases x <;> rfl
  show ({ s with gens := unG (sleepers s.gens) (s.gens.map stub) } : Shared) = s
  rw [e]
theorem lulled_st (s : Shared) : StO (sleepers s.gens) (lulled s).gens := by
  refine ⟨fun i y e => ?_, fun i k l c p fs cl e q => ?_⟩
  · have q : (lulled s).gens[i]? = (s.gens[i]?).map stub := Array.getElem?_map ..
    unfold sleepers at e
    rw [q]
    cases h : s.gens[i]? with
    | none => rw [h] at e; cases e
    | some x =>
      rw [h] at e
      cases x with
      | suspended k l c p fs cl => cases e; exact ⟨k, l, c, p, fs, cl, rfl, rfl⟩
      | _ => cases e
  · have q2 : (lulled s).gens[i]? = (s.gens[i]?).map stub := Array.getElem?_map ..
    rw [q2] at q
    unfold sleepers at e
    cases h : s.gens[i]? with
    | none => rw [h] at q; cases q
    | some x =>
      rw [h] at q e
      cases x with
      | suspended k l c p fs cl => cases e
      | _ => cases q
theorem lulled_bare {s : Shared} (h : AllBare s.gens) : AllBare (lulled s).gens := fun y hy => by
  obtain ⟨x, hx, e⟩ := Array.mem_map.mp (show y ∈ s.gens.map stub from hy)
  rw [← e, stub_bare]
  exact h x hx
/-- who slept sleeps on -/
def Sleep (s s' : Shared) : Prop := ∀ (g : Nat) (k : Resume → Sem PySem.Fin) (l : List Value) (c : Code) (p : Pos) (fs : List Frame) (cl : Bool), s.gens[g]? = some (GenState.suspended k l c p fs cl) → s'.gens[g]? = some (GenState.suspended k l c p fs cl)
/-- THE RULE: it runs beside sleepers as if they could not be woken; they sleep on -/
theorem wpAny_beside {α : Type} {M : Model} {A : Around} {t : Sem α} {Q : α → Shared → Prop} {E : Value → Shared → Prop} {s : Shared} (hb : AllBare s.gens) (h : wpAny M A t Q E (lulled s)) :
    wpAny M A t (fun a s' => ∃ G, Q a { s' with gens := G } ∧ (AllBare G → AllBare s'.gens) ∧ Sleep s s')
      (fun a s' => ∃ G, E a { s' with gens := G } ∧ (AllBare G → AllBare s'.gens) ∧ Sleep s s') s := by
  have key : ∀ (s2 : Shared), StO (sleepers s.gens) s2.gens → (AllBare s2.gens → AllBare (un (sleepers s.gens) s2).gens) ∧ Sleep s (un (sleepers s.gens) s2) := fun s2 st => by
    refine ⟨fun hb2 y hy => ?_, fun g k l c p fs cl hg => ?_⟩
    · obtain ⟨i, hi, e⟩ := Array.mem_iff_getElem.mp hy
      have e2 : (unG (sleepers s.gens) s2.gens)[i]? = some y := by
        rw [← e]; exact Array.getElem?_eq_getElem hi
      rw [unG_get] at e2
      cases h2 : s2.gens[i]? with
      | none => rw [h2] at e2; cases e2
      | some x =>
        rw [h2] at e2
        have e3 : (sleepers s.gens i).getD x = y := Option.some.inj e2
        cases h3 : sleepers s.gens i with
        | none => rw [h3] at e3; rw [← e3]; exact hb2 x (Array.mem_of_getElem? h2)
        | some z =>
          rw [h3] at e3
          rw [← e3]
          unfold sleepers at h3
          cases h4 : s.gens[i]? with
          | none => rw [h4] at h3; cases h3
          | some q =>
            rw [h4] at h3
            cases q with
            | suspended k l c p fs cl => cases h3; exact hb _ (Array.mem_of_getElem? h4)
            | _ => cases h3
    · have e0 : sleepers s.gens g = some (GenState.suspended k l c p fs cl) := by unfold sleepers; rw [hg]
      obtain ⟨_, _, _, _, _, _, _, q⟩ := st.st g _ e0
      show (unG (sleepers s.gens) s2.gens)[g]? = _
      rw [unG_get, q, e0]
      rfl
  intro Γ p hΓ
  have q := wp_un M (sleepers s.gens) t Γ _ _ p (lulled s) (lulled_st s) (h Γ p hΓ)
  rw [lulled_un] at q
  refine Sem.wp_mono M Γ t (fun a p' s' z => ?_) (fun a p' s' z => ?_) p s q
  · obtain ⟨s2, rfl, st, z⟩ := z
    exact ⟨s2.gens, z, (key s2 st).1, (key s2 st).2⟩
  · obtain ⟨s2, rfl, st, z⟩ := z
    exact ⟨s2.gens, z, (key s2 st).1, (key s2 st).2⟩
end GnX
namespace GnX
open PySem PySem.Spec PyProof.Rows L2 GenW
/-! ### a heap cut to its first n objects -/
def trn (h : Heap) (n : Nat) : Heap := { h with objs := h.objs.extract 0 n }
theorem trn_raw {h : Heap} {n b : Nat} : (trn h n).objs[b]? = if b < n then h.objs[b]? else none := by
  show (h.objs.extract 0 n)[b]? = _
  rw [Array.getElem?_extract]
  by_cases hb : b < n
  · rw [if_pos hb]
    by_cases hs : b < h.objs.size
    · rw [if_pos (by omega), Nat.zero_add]
    · rw [if_neg (by omega), Array.getElem?_eq_none (by omega)]
  · rw [if_neg hb, if_neg (by omega)]
theorem trn_get {h : Heap} {n b : Nat} (hb : b < n) : (trn h n).get? b = h.get? b := by
  unfold Heap.get?
  rw [trn_raw, if_pos hb]
theorem trn_out {h : Heap} {n b : Nat} (hb : ¬ b < n) : (trn h n).get? b = none := by
  unfold Heap.get?
  rw [trn_raw, if_neg hb]
theorem trn_keep {h : Heap} {n b : Nat} {o : Obj} (e : (trn h n).get? b = some o) : b < n ∧ h.get? b = some o := by
  by_cases hb : b < n
  · exact ⟨hb, by rw [← trn_get hb]; exact e⟩
  · rw [trn_out hb] at e; cases e
theorem trn_size {h : Heap} {n : Nat} (hn : n ≤ h.objs.size) : (trn h n).objs.size = n := by
  show (h.objs.extract 0 n).size = n
  rw [Array.size_extract]
  omega
theorem frames_trn {h base : Heap} {n : Nat} : ∀ {l : List Env}, h.FunFrames base l → (∀ b ∈ frs l, b < n) → (trn h n).FunFrames base l
  | [], _, _ => trivial
  | env :: r, hl, hf => by
    obtain ⟨hk, ⟨L, o, hL, hn, ho, hd⟩, hr⟩ := hl
    have mL : L ∈ frs (env :: r) := by unfold frs; rw [List.filterMap_cons, hL]; exact List.mem_cons_self
    have sub : ∀ b ∈ frs r, b ∈ frs (env :: r) := fun b hb => by unfold frs; rw [List.filterMap_cons, hL]; exact List.mem_cons_of_mem _ hb
    exact ⟨hk, ⟨L, o, hL, hn, by rw [trn_get (hf L mL)]; exact ho, hd⟩, frames_trn hr fun b hb => hf b (sub b hb)⟩
/-! ### what is known -/
abbrev Kn := List (Addr × HO)
def hpL (l : Kn) : Hp := fun b => l.lookup b
/-- known things lean on known things alone -/
def Clo (cn : Kn) : Prop := ∀ b u, cn.lookup b = some u → match u with
  | .ins C dx _ => cn.lookup dx = some (.own b)
  | .own x => ∃ C fs, cn.lookup x = some (.ins C b fs)
  | .tup _ => True
  | .lst _ => True
  | _ => False
theorem clo_ok {P : Program} {w : World} {cn : Kn} {H H' : Hp} {h : Heap} (c : Clo cn) (k : ∀ b u, cn.lookup b = some u → H' b = some u) {b : Addr} {u : HO} (e : cn.lookup b = some u) (x : ObjOk P w H h b u) : ObjOk P w H' h b u := by
  have q := c b u e
  cases u with
  | ins C dx fs => obtain ⟨_, r⟩ := x; exact ⟨k _ _ q, r⟩
  | own y => exact x
  | tup xs => exact x
  | lst xs => exact x
  | dK _ => exact q.elim
  | dT _ => exact q.elim
  | set _ _ => exact q.elim
  | xd _ => exact q.elim
  | met _ _ => exact q.elim
  | rng _ _ => exact q.elim
  | frz _ _ => exact q.elim
  | tbl _ => exact q.elim
  | ext _ => exact q.elim
theorem clo_exists {P : Program} {w : World} {cn : Kn} {H : Hp} {h : Heap} (c : Clo cn) {b : Addr} {u : HO} (e : cn.lookup b = some u) (x : ObjOk P w H h b u) : ∃ o, h.get? b = some o := by
  have q := c b u e
  cases u with
  | ins C dx fs => obtain ⟨_, _, _, r, _⟩ := x; exact ⟨_, r⟩
  | own y => exact x
  | tup xs => obtain ⟨_, _, _, o, r, _⟩ := x; exact ⟨o, r⟩
  | lst xs => obtain ⟨_, _, _, _, r⟩ := x; exact ⟨_, r⟩
  | dK _ => exact q.elim
  | dT _ => exact q.elim
  | set _ _ => exact q.elim
  | xd _ => exact q.elim
  | met _ _ => exact q.elim
  | rng _ _ => exact q.elim
  | frz _ _ => exact q.elim
  | tbl _ => exact q.elim
  | ext _ => exact q.elim
/-! ### what a generator wants ahead of a wake, what it leaves behind -/
abbrev Pins := List (Addr × Obj)
abbrev adr (M : Pins) : List Addr := M.map (·.1)
structure Need (P : Program) (w : World) (base : Heap) (outer : List Env) (cn : Kn) (M : Pins) (s : Shared) : Prop where
  bare : AllBare s.gens
  bs : ∀ b o, base.get? b = some o → s.heap.get? b = some o
  funs : s.heap.FunFrames base outer
  cn : ∀ b u, cn.lookup b = some u → ObjOk P w (hpL cn) s.heap b u
  pin : ∀ q ∈ M, s.heap.get? q.1 = some q.2
structure Step (P : Program) (w : World) (outer : List Env) (cn : Kn) (M : Pins) (s : Shared) (M' : Pins) (s1 : Shared) : Prop where
  os : s1.os = s.os
  bare : AllBare s1.gens
  keep : ∀ b o, s.heap.get? b = some o → b ∉ adr M → cn.lookup b = none → b ∉ frs outer → s1.heap.get? b = some o
  slot : ∀ b o, s.heap.get? b = some o → b ∈ frs outer → ∃ sl, s1.heap.get? b = some { o with slots := sl }
  cn : ∀ b u, cn.lookup b = some u → ObjOk P w (hpL cn) s1.heap b u
  pin : ∀ q ∈ M', s1.heap.get? q.1 = some q.2 ∧ (∀ v, q.2.data ≠ .cell v) ∧ (q.1 ∈ adr M ∨ s.heap.get? q.1 = none)
/-- the consumer: WK ahead of the k-th wake, CY behind a yield, CE behind the end -/
structure Cons (P : Program) (w : World) (base : Heap) (outer : List Env) (cn : Kn) (rows : List (List V)) (WK : Nat → Pins → Shared → Prop) (CY : Nat → Pins → Value → Shared → Prop) (CE : Shared → Prop) : Prop where
  need : ∀ k M s, WK k M s → Need P w base outer cn M s
  item : ∀ k M M' row p s s1, rows[k]? = some row → WK k M s → Step P w outer cn M s M' s1 → (p ∈ adr M ∨ s.heap.get? p = none) → row.length ≤ sizeLine → (∃ its, Vals row its ∧ IsTup s1.heap p its.toArray) → p ∉ adr M' → CY k M' (.ref p) s1
  done : ∀ M s s1, WK rows.length M s → Step P w outer cn M s [] s1 → CE s1
def YP (WK : Nat → Pins → Shared → Prop) (CY : Nat → Pins → Value → Shared → Prop) (N : Nat) : Protocol := fun n _ v s1 kap => ∃ M k, n + 1 + k = N ∧ CY k M v s1 ∧ ∀ s', WK (k + 1) M s' → kap (.send .none) s'
def RP (CE : Shared → Prop) : GenEnd := fun n s0 r s1 => ((r = .ok (.ret .none) ∨ r = .ok .next) ∧ (fun _ _ s => CE s) n s0 s1) ∨ ∃ e, r = .error e ∧ (fun _ _ => False) e s1
/-! ### the generator's own context -/
structure Pl where
  P : Program
  w : World
  K : PySem.W.Frag
  mg : Str → Option Value
  base : Heap
  N : List Str
  qual : Str
  scope : Scope
  f : Addr
  cd : Value
  A : Around
  outer : List Env
  n0 : Nat
def Pl.env (L : Pl) : Env := envOfC L.qual L.scope L.n0 L.f L.cd
def Pl.cx (L : Pl) (t : Shared) (G : Hp) : Cx where
  prog := L.P
  w := L.w
  K := L.K
  mg := L.mg
  base := L.base
  A := L.A.deeper L.env
  N := L.N
  s_0 := t
  H_0 := G
  env := L.env
  outer := L.outer
  stack := L.env :: L.outer
  ex := []
  calm := true
  fn := fun _ => true
  pn := []
  xe := fun _ _ => False
structure Pl.Ok (L : Pl) : Prop where
  mod : Mod L.K L.mg L.base
  kind : L.scope.kind = .function
  nocell : ∀ y ∈ L.scope.names, y.2 ≠ .cell ∧ y.2 ≠ .free
  hd : L.A.handled = none
  frames : L.A.frames = some L.outer
  bsz : L.base.objs.size ≤ L.n0
  fr : ∀ b ∈ frs L.outer, b < L.n0
theorem Pl.Ok.cells {L : Pl} (o : L.Ok) {x : Str} {c : Addr} (e : L.env.cells.lookup x = some c) : False := by
  have hm := PySem.mem_of_lookup e
  have key : ∀ {names : List (Str × NameKind)} {n : Nat} {acc : List (Str × Addr)} {q : Str × Addr}, (∀ y ∈ names, y.2 ≠ .cell) → q ∈ cellsFrom n names acc → q ∈ acc := by
    intro names
    induction names with
    | nil => intro n acc q _ h; exact h
    | cons y r ih =>
      intro n acc q hn h
      obtain ⟨m, k⟩ := y
      unfold cellsFrom at h
      split at h
      · rename_i hk
        have hk : k = .cell := by simpa using hk
        exact absurd hk (hn (m, k) List.mem_cons_self)
      · exact ih (fun y hy => hn y (List.mem_cons_of_mem _ hy)) h
  have := key (fun y hy => (o.nocell y hy).1) (show (x, c) ∈ cellsFrom (L.n0 + 1) L.scope.names [] from hm)
  cases this
/-- what the generator knows at a wake: kn, and every other young thing as it is -/
def gOf (n0 : Nat) (kn : Kn) (ip : List Addr) (h : Heap) : Hp := fun b => match kn.lookup b with
  | some u => some u
  | none => if n0 < b ∧ b ∉ ip then (h.get? b).map fun o => .frz o (.own 0) else none
theorem gOf_kn {n0 : Nat} {kn : Kn} {ip : List Addr} {h : Heap} {b : Addr} {u : HO} (e : kn.lookup b = some u) : gOf n0 kn ip h b = some u := by unfold gOf; rw [e]
theorem gOf_old {n0 : Nat} {kn : Kn} {ip : List Addr} {h : Heap} {b : Addr} (e : kn.lookup b = none) (hb : ¬ n0 < b) : gOf n0 kn ip h b = none := by
  unfold gOf; rw [e]
  exact if_neg fun z => hb z.1
theorem gOf_ip {n0 : Nat} {kn : Kn} {ip : List Addr} {h : Heap} {b : Addr} (e : kn.lookup b = none) (hb : b ∈ ip) : gOf n0 kn ip h b = none := by
  unfold gOf; rw [e]
  exact if_neg fun z => z.2 hb
theorem gOf_frz {n0 : Nat} {kn : Kn} {ip : List Addr} {h : Heap} {b : Addr} {o : Obj} (e : kn.lookup b = none) (hb : n0 < b) (hi : b ∉ ip) (ho : h.get? b = some o) : gOf n0 kn ip h b = some (.frz o (.own 0)) := by
  unfold gOf; rw [e]
  show (if _ then _ else _) = _
  rw [if_pos ⟨hb, hi⟩, ho]; rfl
theorem gOf_cases {n0 : Nat} {kn : Kn} {ip : List Addr} {h : Heap} {b : Addr} {u : HO} (e : gOf n0 kn ip h b = some u) : kn.lookup b = some u ∨ (kn.lookup b = none ∧ n0 < b ∧ b ∉ ip ∧ ∃ o, h.get? b = some o ∧ u = .frz o (.own 0)) := by
  unfold gOf at e
  cases q : kn.lookup b with
  | some v => rw [q] at e; exact .inl e
  | none =>
    rw [q] at e
    have e : (if n0 < b ∧ b ∉ ip then (h.get? b).map fun o => HO.frz o (.own 0) else none) = some u := e
    by_cases z : n0 < b ∧ b ∉ ip
    · rw [if_pos z] at e
      cases r : h.get? b with
      | none => rw [r] at e; cases e
      | some o => rw [r] at e; exact .inr ⟨rfl, z.1, z.2, o, rfl, (Option.some.inj e).symm⟩
    · rw [if_neg z] at e; cases e
/-- at rest -/
structure Rest (L : Pl) (kn : Kn) (ip : Pins) (σ : L2.St) (s : Shared) : Prop where
  bare : AllBare s.gens
  bs : ∀ b o, L.base.get? b = some o → s.heap.get? b = some o
  funs : s.heap.FunFrames L.base L.outer
  loc : ∃ m, s.heap.Ns L.n0 m ∧ ∀ (i : Nat) (x : Str) (v : V), L.N[i]? = some x → σ[i]? = some (some v) → Vis L.scope x → ∃ u, RelV v u ∧ Look L.env s.heap m x u
  knO : ∀ b u, kn.lookup b = some u → ObjOk L.P L.w (hpL kn) s.heap b u
  knA : ∀ b u, kn.lookup b = some u → L.base.get? b = none ∧ b ∉ frs L.outer ∧ b ≠ L.n0 ∧ b ∉ adr ip
  ip : ∀ p ∈ ip, s.heap.get? p.1 = some p.2 ∧ p.1 ∉ frs L.outer ∧ p.1 ≠ L.n0 ∧ ∀ v, p.2.data ≠ .cell v
  len : σ.length = L.N.length
theorem rebase {L : Pl} (o : L.Ok) {kn : Kn} {ip : Pins} {σ : L2.St} {s : Shared} (R : Rest L kn ip σ s) (c : Clo kn) :
    Inv (L.cx { s with heap := trn s.heap L.n0 } (gOf L.n0 kn (adr ip) s.heap)) ip σ (gOf L.n0 kn (adr ip) s.heap) s := by
  obtain ⟨m, hn, hl⟩ := id R.loc
  have hlt : L.n0 < s.heap.objs.size := hn.lt
  have hsz : (trn s.heap L.n0).objs.size = L.n0 := trn_size (Nat.le_of_lt hlt)
  have ltB : ∀ b o, L.base.get? b = some o → b < L.n0 := fun b ob e => Nat.lt_of_lt_of_le (Heap.lt_size e) o.bsz
  have nk : ∀ b, (∀ u, kn.lookup b = some u → False) → kn.lookup b = none := fun b h => by
    cases q : kn.lookup b with
    | none => rfl
    | some u => exact (h u q).elim
  have bsN : ∀ b ob, L.base.get? b = some ob → gOf L.n0 kn (adr ip) s.heap b = none := fun b ob e =>
    gOf_old (nk b fun u q => by have := (R.knA b u q).1; rw [e] at this; cases this) (Nat.not_lt.mpr (Nat.le_of_lt (ltB b ob e)))
  have frN : ∀ b ∈ frs L.outer, gOf L.n0 kn (adr ip) s.heap b = none := fun b hb =>
    gOf_old (nk b fun u q => (R.knA b u q).2.1 hb) (Nat.not_lt.mpr (Nat.le_of_lt (o.fr b hb)))
  have noc : ∀ {x : Str} {c : Addr} {p : Prop}, L.env.cells.lookup x = some c → p := fun e => (o.cells e).elim
  refine ⟨⟨o.mod, o.kind, rfl, rfl, Nat.le_of_eq hsz, fun _ _ _ e _ => noc e, fun y hy => ?_, fun _ _ _ e => noc e, fun _ => o.hd, Around.frames_deeper o.frames, .inr ⟨rfl, rfl⟩, fun b hb => absurd hb (by simp [Pl.cx]), fun b ob e => ⟨?_, bsN b ob e⟩, ?_,
    fun b _ _ hb => absurd hb (by simp [Pl.cx]), fun b hb => absurd hb (by simp [Pl.cx]), frames_trn R.funs o.fr, frN⟩, rfl, R.bare, Un.kept fun b u e => (trn_keep e).2, ⟨m, hn, hl⟩, fun _ _ e => noc e, ?_, fun _ _ e => noc e, fun p hp => ?_, fun b u e => ?_, R.len⟩
  · have bad : ∀ k, L.scope.names.lookup y = some k → k = .cell ∨ k = .free → False := fun k e z => by
      have q := o.nocell _ (PySem.mem_of_lookup e)
      rcases z with z | z
      · exact q.1 z
      · exact q.2 z
    rcases hy with hy | hy
    · exact (bad _ hy (.inl rfl)).elim
    · exact (bad _ hy (.inr rfl)).elim
  · show (trn s.heap L.n0).get? b = some ob
    rw [trn_get (ltB b ob e)]; exact R.bs b ob e
  · show L.base.objs.size ≤ (trn s.heap L.n0).objs.size
    rw [hsz]; exact o.bsz
  · exact gOf_old (nk _ fun u q => (R.knA _ u q).2.2.1 rfl) (Nat.lt_irrefl _)
  · have hp : p ∈ ip := by simpa [Pl.cx] using hp
    obtain ⟨a1, a2, a3, a4⟩ := R.ip p hp
    have hm : p.1 ∈ adr ip := List.mem_map.mpr ⟨p, hp, rfl⟩
    exact ⟨a1, gOf_ip (nk _ fun u q => (R.knA _ u q).2.2.2 hm) hm, a3, a2, a4⟩
  · rcases gOf_cases e with q | ⟨_, _, _, ob, ho, rfl⟩
    · exact clo_ok c (fun b' u' e' => gOf_kn e') q (R.knO b u q)
    · exact ⟨ho, ob, ho⟩
end GnX
namespace GnX
open PySem PySem.Spec PyProof.Rows L2 GenW
/-- a generator and its consumer -/
structure GBd where
  L : Pl
  cn : Kn
  rows : List (List V)
  WK : Nat → Pins → Shared → Prop
  CY : Nat → Pins → Value → Shared → Prop
  CE : Shared → Prop
structure GBd.Ok (B : GBd) : Prop where
  pl : B.L.Ok
  clo : Clo B.cn
  cons : Cons B.L.P B.L.w B.L.base B.L.outer B.cn B.rows B.WK B.CY B.CE
abbrev adK (ow : Kn) : List Addr := ow.map (·.1)
theorem mem_look : ∀ {l : Kn} {b : Addr} {u : HO}, l.lookup b = some u → (b, u) ∈ l
  | [], _, _, h => by cases h
  | (x, v) :: r, b, u, h => by
    rw [List.lookup_cons] at h
    cases q : b == x with
    | true =>
      rw [q] at h
      have e : b = x := by simpa using q
      cases h
      rw [e]; exact List.mem_cons_self
    | false => rw [q] at h; exact List.mem_cons_of_mem _ (mem_look h)
theorem look_app {a b : Kn} {x : Addr} {u : HO} (h : (a ++ b).lookup x = some u) : a.lookup x = some u ∨ (a.lookup x = none ∧ b.lookup x = some u) := by
  rw [List.lookup_append] at h
  cases q : a.lookup x with
  | some v => rw [q] at h; exact .inl h
  | none => rw [q] at h; exact .inr ⟨rfl, h⟩
theorem look_app1 {a b : Kn} {x : Addr} {u : HO} (h : a.lookup x = some u) : (a ++ b).lookup x = some u := by rw [List.lookup_append, h]; rfl
theorem clo_app {cn ow : Kn} (c : Clo cn) (h : ∀ q ∈ ow, ∃ xs, q.2 = .lst xs) : Clo (cn ++ ow) := fun b u e => by
  rcases look_app e with q | ⟨_, q⟩
  · have z := c b u q
    cases u with
    | ins C dx fs => exact look_app1 z
    | own y => obtain ⟨C, fs, z⟩ := z; exact ⟨C, fs, look_app1 z⟩
    | tup xs => trivial
    | lst xs => trivial
    | dK _ => exact z.elim
    | dT _ => exact z.elim
    | set _ _ => exact z.elim
    | xd _ => exact z.elim
    | met _ _ => exact z.elim
    | rng _ _ => exact z.elim
    | frz _ _ => exact z.elim
    | tbl _ => exact z.elim
    | ext _ => exact z.elim
  · obtain ⟨xs, e2⟩ := h (b, u) (mem_look q)
    subst e2
    trivial
/-- within a segment: the wake it began at, and the state now -/
structure GIn (B : GBd) (k : Nat) (ip : Pins) (σ : L2.St) (H : Hp) (M : Pins) (sw : Shared) (ow : Kn) (ipw : List Addr) (s : Shared) : Prop where
  wk : B.WK k M sw
  mM : ∀ b, b ∈ adr M ↔ b = B.L.n0 ∨ b ∈ ipw ∨ b ∈ adK ow
  lst : ∀ q ∈ ow, ∃ xs, q.2 = .lst xs
  fr : ∀ b ∈ frs B.L.outer, (B.cn ++ ow).lookup b = none
  ipy : ∀ p ∈ ip, B.L.n0 ≤ p.1
  sz : B.L.n0 ≤ sw.heap.objs.size
  I : Inv (B.L.cx { sw with heap := trn sw.heap B.L.n0 } (gOf B.L.n0 (B.cn ++ ow) ipw sw.heap)) ip σ H s
def GI2 (B : GBd) (k : Nat) (ip : Pins) (σ : L2.St) (H : Hp) (s : Shared) : Prop := ∃ M sw ow ipw, GIn B k ip σ H M sw ow ipw s
/-- what is wanted of the heap's knowledge at a yield, at the end: the consumer's things are as they were; ow: the lists that the generator goes on with -/
def Knows (cn : Kn) (H : Hp) : Prop := ∀ b u, cn.lookup b = some u → H b = some u
def Owns (cn ow : Kn) (H : Hp) : Prop := ∀ q ∈ ow, (∃ xs, q.2 = .lst xs) ∧ H q.1 = some q.2 ∧ cn.lookup q.1 = none
section
variable {B : GBd} {k : Nat} {ip : Pins} {σ : L2.St} {H : Hp} {M : Pins} {sw s : Shared} {ow ow' : Kn} {ipw : List Addr}
theorem GIn.step (g : GIn B k ip σ H M sw ow ipw s) (ok : B.Ok) (hc : Knows B.cn H) (hw : Owns B.cn ow' H) {fp : List Addr} (hf : ∀ b ∈ fp, b = B.L.n0 ∨ b ∈ adr ip ∨ b ∈ adK ow') :
    Step B.L.P B.L.w B.L.outer B.cn M sw (pinsAt fp s.heap) s := by
  have I := g.I
  have G0 : ∀ b, b ∉ adr M → B.cn.lookup b = none → (B.cn ++ ow).lookup b = none := fun b hb e => by
    cases q : (B.cn ++ ow).lookup b with
    | none => rfl
    | some u =>
      rcases look_app q with z | ⟨_, z⟩
      · rw [e] at z; cases z
      · exact absurd ((g.mM b).mpr (.inr (.inr (List.mem_map.mpr ⟨(b, u), mem_look z, rfl⟩)))) hb
  have young : ∀ b o, sw.heap.get? b = some o → b ∉ adr M → B.cn.lookup b = none → B.L.n0 < b → H b = some (.frz o (.own 0)) := fun b o e hb c hlt =>
    I.base.frzs b o _ (gOf_frz (G0 b hb c) hlt (fun z => hb ((g.mM b).mpr (.inr (.inl z)))) e)
  refine ⟨I.os, I.bare, fun b o e hb c hfr => ?_, fun b o e hfr => ?_, fun b u e => ?_, fun q hq => ?_⟩
  · have gk := G0 b hb c
    by_cases hlt : B.L.n0 < b
    · exact (I.hok b _ (young b o e hb c hlt)).1
    · have hne : b ≠ B.L.n0 := fun z => hb ((g.mM b).mpr (.inl z))
      have hl : b < B.L.n0 := Nat.lt_of_le_of_ne (Nat.le_of_not_lt hlt) hne
      exact I.base.keep b o (by show (trn sw.heap B.L.n0).get? b = _; rw [trn_get hl]; exact e) (gOf_old gk hlt) hfr (by simp [Pl.cx])
  · have hl := ok.pl.fr b hfr
    exact I.base.slot b o (by show (trn sw.heap B.L.n0).get? b = _; rw [trn_get hl]; exact e) (gOf_old (g.fr b hfr) (Nat.not_lt.mpr (Nat.le_of_lt hl))) hfr (by simp [Pl.cx])
  · exact clo_ok ok.clo (fun _ _ z => z) e (I.hok b u (hc b u e))
  · obtain ⟨hb, e⟩ := of_pinsAt hq
    have lstAt : ∀ x ∈ adK ow', ∃ xs, H x = some (.lst xs) ∧ B.cn.lookup x = none := fun x hx => by
      obtain ⟨p, hp, e1⟩ := List.mem_map.mp hx
      obtain ⟨⟨xs, e2⟩, e3, e4⟩ := hw p hp
      rw [← e1]
      exact ⟨xs, by rw [e3, e2], e4⟩
    have fresh : ∀ x, B.cn.lookup x = none → x ≠ B.L.n0 → (H x = none ∧ B.L.n0 ≤ x ∨ ∃ xs, H x = some (.lst xs)) → x ∈ adr M ∨ sw.heap.get? x = none := fun x c hne h => by
      cases z : sw.heap.get? x with
      | none => exact .inr rfl
      | some ob =>
        by_cases hm : x ∈ adr M
        · exact .inl hm
        · exfalso
          by_cases hlt : B.L.n0 < x
          · have y := young x ob z hm c hlt
            rcases h with h | ⟨xs, h⟩
            · rw [h.1] at y; cases y
            · rw [h] at y; cases y
          · have hl : x < B.L.n0 := Nat.lt_of_le_of_ne (Nat.le_of_not_lt hlt) hne
            rcases h with h | ⟨xs, h⟩
            · exact absurd (Nat.lt_of_lt_of_le hl h.2) (Nat.lt_irrefl _)
            · have y := I.base.free x ob (by show (trn sw.heap B.L.n0).get? x = _; rw [trn_get hl]; exact z) (gOf_old (G0 x hm c) hlt) (by simp [Pl.cx])
              rw [h] at y; cases y
    refine ⟨e, ?_, ?_⟩
    · rcases hf q.1 hb with h | h | h
      · obtain ⟨m, ⟨o, es, ep, ho, hd, _⟩, _⟩ := I.loc
        have ho : s.heap.get? B.L.n0 = some o := ho
        rw [← h, e] at ho
        cases ho
        intro v z
        rw [hd] at z; cases z
      · obtain ⟨p, hp, e1⟩ := List.mem_map.mp h
        have y := I.pin p (List.mem_append_right _ hp)
        rw [e1, e] at y
        have e2 : q.2 = p.2 := Option.some.inj y.1
        rw [e2]
        exact y.2.2.2.2
      · obtain ⟨xs, h1, _⟩ := lstAt q.1 h
        obtain ⟨_, its, n, _, y⟩ := I.hok q.1 _ h1
        rw [e] at y
        have e2 := Option.some.inj y
        rw [e2]
        intro v z; cases z
    · rcases hf q.1 hb with h | h | h
      · exact .inl ((g.mM q.1).mpr (.inl h))
      · obtain ⟨p, hp, e1⟩ := List.mem_map.mp h
        have y := I.pin p (List.mem_append_right _ hp)
        rw [e1] at y
        by_cases hm : q.1 ∈ adr M
        · exact .inl hm
        · cases z : sw.heap.get? q.1 with
          | none => exact .inr rfl
          | some ob =>
            exfalso
            cases c : B.cn.lookup q.1 with
            | some u =>
              have := hc _ _ c
              rw [y.2.1] at this; cases this
            | none =>
              have h1 := g.ipy p hp
              rw [e1] at h1
              have h2 : q.1 ≠ B.L.n0 := y.2.2.1
              have w := young q.1 ob z hm c (Nat.lt_of_le_of_ne h1 (Ne.symm h2))
              rw [y.2.1] at w; cases w
      · obtain ⟨xs, h1, c⟩ := lstAt q.1 h
        exact fresh q.1 c (fun z => by
          have f0 : H B.L.n0 = none := I.free
          rw [← z, h1] at f0; cases f0) (.inr ⟨xs, h1⟩)
/-- what the consumer is told to keep -/
abbrev fpOf (B : GBd) (ip : Pins) (ow : Kn) : List Addr := B.L.n0 :: (adr ip ++ adK ow)
theorem GIn.woken (g : GIn B k ip σ H M sw ow ipw s) (ok : B.Ok) (hc : Knows B.cn H) (hw : Owns B.cn ow' H) {s' : Shared} (h : B.WK (k + 1) (pinsAt (fpOf B ip ow') s.heap) s') :
    GI2 B (k + 1) ip σ (gOf B.L.n0 (B.cn ++ ow') (adr ip) s'.heap) s' := by
  have I := g.I
  have N := ok.cons.need _ _ _ h
  have kp : ∀ b o, b ∈ fpOf B ip ow' → s.heap.get? b = some o → s'.heap.get? b = some o := fun b o hb e => N.pin (b, o) (mem_pinsAt hb e)
  have at0 : ∀ b u, (B.cn ++ ow').lookup b = some u → H b = some u := fun b u e => by
    rcases look_app e with q | ⟨_, q⟩
    · exact hc b u q
    · exact (hw (b, u) (mem_look q)).2.1
  obtain ⟨m, ⟨o0, es, ep, ho, hd, hr⟩, hl⟩ := I.loc
  have R : Rest B.L (B.cn ++ ow') ip σ s' := by
    refine ⟨N.bare, N.bs, N.funs, ⟨m, ⟨o0, es, ep, kp B.L.n0 o0 List.mem_cons_self ho, hd, hr⟩, fun i x v e1 e2 e3 => ?_⟩, fun b u e => ?_, fun b u e => ?_, fun p hp => ?_, I.len⟩
    · obtain ⟨u, r, l⟩ := hl i x v e1 e2 e3
      refine ⟨u, r, ?_⟩
      rcases l with l | ⟨_, c, e, _⟩
      · exact .inl l
      · exact (ok.pl.cells e).elim
    · rcases look_app e with q | ⟨_, q⟩
      · exact clo_ok ok.clo (fun _ _ z => look_app1 z) q (N.cn b u q)
      · obtain ⟨⟨xs, e2⟩, e3, _⟩ := hw (b, u) (mem_look q)
        have e2 : u = .lst xs := e2
        subst e2
        obtain ⟨z, its, n, r, y⟩ := I.hok b _ e3
        exact ⟨z, its, n, r, kp b _ (List.mem_cons_of_mem _ (List.mem_append_right _ (List.mem_map.mpr ⟨(b, .lst xs), mem_look q, rfl⟩))) y⟩
    · have e1 := at0 b u e
      refine ⟨?_, fun z => ?_, fun z => ?_, fun z => ?_⟩
      · cases q : B.L.base.get? b with
        | none => rfl
        | some ob =>
          have := (I.bs b ob q).2
          rw [e1] at this; cases this
      · have := I.stkFree b (by
          show b ∈ frs (B.L.env :: B.L.outer)
          unfold frs
          rw [List.filterMap_cons]
          cases B.L.env.frame with
          | none => exact z
          | some _ => exact List.mem_cons_of_mem _ z)
        rw [e1] at this; cases this
      · have f0 : H B.L.n0 = none := I.free
        rw [← z, e1] at f0; cases f0
      · obtain ⟨p, hp, e2⟩ := List.mem_map.mp z
        have := (I.pin p (List.mem_append_right _ hp)).2.1
        rw [e2, e1] at this; cases this
    · obtain ⟨a1, a2, a3, a4, a5⟩ := I.pin p (List.mem_append_right _ hp)
      exact ⟨kp p.1 p.2 (List.mem_cons_of_mem _ (List.mem_append_left _ (List.mem_map.mpr ⟨p, hp, rfl⟩))) a1, a4, a3, a5⟩
  refine ⟨_, s', ow', adr ip, ⟨h, fun b => ?_, fun q hq => (hw q hq).1, fun b hb => ?_, g.ipy, Nat.le_of_lt (Heap.lt_size (kp B.L.n0 o0 List.mem_cons_self ho)), rebase ok.pl R (clo_app ok.clo fun q hq => (hw q hq).1)⟩⟩
  · refine ⟨fun hb => ?_, fun hb => ?_⟩
    · obtain ⟨p, hp, e⟩ := List.mem_map.mp hb
      have y := (of_pinsAt hp).1
      rw [e] at y
      rcases List.mem_cons.mp y with z | z
      · exact .inl z
      · exact .inr (List.mem_append.mp z)
    · have hm : b ∈ fpOf B ip ow' := by
        rcases hb with z | z
        · rw [z]; exact List.mem_cons_self
        · exact List.mem_cons_of_mem _ (List.mem_append.mpr z)
      have ex : ∃ o, s.heap.get? b = some o := by
        rcases hb with z | z | z
        · exact ⟨o0, by rw [z]; exact ho⟩
        · obtain ⟨p, hp, e⟩ := List.mem_map.mp z
          exact ⟨p.2, by rw [← e]; exact (I.pin p (List.mem_append_right _ hp)).1⟩
        · obtain ⟨p, hp, e⟩ := List.mem_map.mp z
          obtain ⟨⟨xs, e2⟩, e3, _⟩ := hw p hp
          rw [e2] at e3
          obtain ⟨_, its, n, _, y⟩ := I.hok p.1 _ e3
          exact ⟨_, by rw [← e]; exact y⟩
      obtain ⟨o, e⟩ := ex
      exact List.mem_map.mpr ⟨(b, o), mem_pinsAt hm e, rfl⟩
  · cases q : (B.cn ++ ow').lookup b with
    | none => rfl
    | some u => exact absurd hb (R.knA b u q).2.1
end
end GnX
namespace GnX
open PySem PySem.Spec PyProof.Rows L2 GenW
/-! ### a generator's statements -/
structure GE where
  nx : Nat → L2.St → Hp → Prop
  bk : Nat → L2.St → Hp → Prop := fun _ _ _ => False
  ct : Nat → L2.St → Hp → Prop := fun _ _ _ => False
abbrev TG2 := GE → Nat → L2.St → Hp → Prop
abbrev SegB (B : GBd) (n : Nat) (s0 : Shared) (c : Code) (t : Sem PySem.Fin) (fs : List Frame) (s : Shared) : Prop :=
  Seg (model B.L.P B.L.w) B.L.A (RP B.CE) (YP B.WK B.CY B.rows.length) n s0 c t fs s
def GSP2 (B : GBd) (ip : Pins) (D : GE) (k : Nat) (f : Flow) (s : Shared) : Prop := match f with
  | .next => ∃ σ H, GI2 B k ip σ H s ∧ D.nx k σ H
  | .brk => ∃ σ H, GI2 B k ip σ H s ∧ D.bk k σ H
  | .cont => ∃ σ H, GI2 B k ip σ H s ∧ D.ct k σ H
  | .ret _ => False
structure GC2 (B : GBd) (c : Code) (fs : List Frame) (gd : Bool → Bool) : Prop where
  over : B.L.A.over c fs = B.L.A.deeper B.L.env
  split : splitAtGen fs = none
  guard : fs.any Frame.guarded = false
  gd : gd false = false
structure GS2 (B : GBd) (st : Stmt) (t : TG2) : Prop where
  run : ∀ (ip : Pins) (n k : Nat) (s0 : Shared) (c : Code) (fs : List Frame) (K : Flow → Sem PySem.Fin) (J : Value → Sem PySem.Fin) (gd : Bool → Bool) (lv : List Value → List Value) (s : Shared) (σ : L2.St) (H : Hp) (D : GE), B.Ok → GC2 B c fs gd → n + k = B.rows.length →
    (∀ n k s0 s f, n + k = B.rows.length → GSP2 B ip D k f s → SegB B n s0 c (K f) fs s) → GI2 B k ip σ H s → t D k σ H → SegB B n s0 c ((exec st B.L.env).wrap K J gd lv) fs s
structure GSs2 (B : GBd) (st : List Stmt) (t : TG2) : Prop where
  run : ∀ (ip : Pins) (n k : Nat) (s0 : Shared) (c : Code) (fs : List Frame) (K : Flow → Sem PySem.Fin) (J : Value → Sem PySem.Fin) (gd : Bool → Bool) (lv : List Value → List Value) (s : Shared) (σ : L2.St) (H : Hp) (D : GE), B.Ok → GC2 B c fs gd → n + k = B.rows.length →
    (∀ n k s0 s f, n + k = B.rows.length → GSP2 B ip D k f s → SegB B n s0 c (K f) fs s) → GI2 B k ip σ H s → t D k σ H → SegB B n s0 c ((execs st B.L.env).wrap K J gd lv) fs s
section
variable {B : GBd} {st : Stmt} {rest : List Stmt}
theorem GIn.next {k : Nat} {ip : Pins} {σ σ' : L2.St} {H H' : Hp} {M : Pins} {sw s s' : Shared} {ow : Kn} {ipw : List Addr} (g : GIn B k ip σ H M sw ow ipw s)
    (I : Inv (B.L.cx { sw with heap := trn sw.heap B.L.n0 } (gOf B.L.n0 (B.cn ++ ow) ipw sw.heap)) ip σ' H' s') : GI2 B k ip σ' H' s' := ⟨M, sw, ow, ipw, g.wk, g.mM, g.lst, g.fr, g.ipy, g.sz, I⟩
def tPlain2 (t : TS) : TG2 := fun D k σ H => t { nx := D.nx k, rt := fun _ _ => False, bk := D.bk k, ct := D.ct k } σ H
theorem sp_gsp2 {k : Nat} {ip : Pins} {σ : L2.St} {H : Hp} {M : Pins} {sw s s' : Shared} {ow : Kn} {ipw : List Addr} {D : GE} {f : Flow} (g : GIn B k ip σ H M sw ow ipw s)
    (h : SP (B.L.cx { sw with heap := trn sw.heap B.L.n0 } (gOf B.L.n0 (B.cn ++ ow) ipw sw.heap)) ip { nx := D.nx k, rt := fun _ _ => False, bk := D.bk k, ct := D.ct k } f s') : GSP2 B ip D k f s' := by
  cases f with
  | next => obtain ⟨σ', H', I, q⟩ := h; exact ⟨σ', H', g.next I, q⟩
  | brk => obtain ⟨σ', H', I, q⟩ := h; exact ⟨σ', H', g.next I, q⟩
  | cont => obtain ⟨σ', H', I, q⟩ := h; exact ⟨σ', H', g.next I, q⟩
  | ret u => obtain ⟨_, _, _, _, _, q⟩ := h; exact q
theorem gs2_ps {t : TS} (h : ∀ tt G, PS (B.L.cx tt G) st t) : GS2 B st (tPlain2 t) := by
  refine ⟨fun ip n k s0 c fs K J gd lv s σ H D ok gc hn hk hI ht => ?_⟩
  obtain ⟨M, sw, ow, ipw, g⟩ := hI
  refine seg_wrap ?_
  rw [gc.over]
  exact wpAny_mono ((h _ _).run ip s σ H _ g.I ht) (fun f s' hs => hk n k s0 s' f hn (sp_gsp2 g hs)) fun _ _ z => z.elim
def tG20 : TG2 := fun D k σ H => D.nx k σ H
theorem gss2_nil : GSs2 B [] tG20 := by
  refine ⟨fun ip n k s0 c fs K J gd lv s σ H D ok gc hn hk hI ht => ?_⟩
  exact seg_execs_nil (hk n k s0 s .next hn ⟨σ, H, hI, ht⟩)
def tGThen2 (t u : TG2) : TG2 := fun D k σ H => t { D with nx := fun k' σ' H' => u D k' σ' H' } k σ H
theorem gss2_cons {t u : TG2} (a : GS2 B st t) (b : GSs2 B rest u) : GSs2 B (st :: rest) (tGThen2 t u) := by
  refine ⟨fun ip n k s0 c fs K J gd lv s σ H D ok gc hn hk hI ht => ?_⟩
  refine seg_execs_cons ?_
  refine a.run ip n k s0 c fs _ J gd lv s σ H { D with nx := fun k' σ' H' => u D k' σ' H' } ok gc hn (fun n' k' s0' s' f hn' hs => ?_) hI ht
  cases f with
  | next =>
    obtain ⟨σ', H', I', q⟩ := hs
    exact b.run ip n' k' s0' c fs K J gd lv s' σ' H' D ok gc hn' hk I' q
  | brk => exact hk n' k' s0' s' .brk hn' hs
  | cont => exact hk n' k' s0' s' .cont hn' hs
  | ret u => exact hs.elim
theorem gss2_one {t : TG2} (a : GS2 B st t) : GSs2 B [st] (tGThen2 t tG20) := gss2_cons a gss2_nil
/-! ### if -/
def tGIf (c : TT) (ta tb : TG2) : TG2 := fun D k σ H => c σ H fun b H1 => if b = true then ta D k σ H1 else tb D k σ H1
theorem gs2_if {test : Expr} {body orelse : List Stmt} {pos : Pos} {tc : TT} {ta tb : TG2} (hc : ∀ tt G, PT (B.L.cx tt G) test tc) (ha : GSs2 B body ta) (hb : GSs2 B orelse tb) : GS2 B (.If test body orelse pos) (tGIf tc ta tb) := by
  refine ⟨fun ip n k s0 c fs K J gd lv s σ H D ok gc hn hk hI ht => ?_⟩
  obtain ⟨M, sw, ow, ipw, g⟩ := hI
  rw [arm_exec_If]
  refine seg_bind_wrap (wpAny_standAt ?_)
  refine seg_bind_wrap ?_
  rw [gc.over]
  refine wpAny_mono ((hc _ _).run ip s σ H _ g.I ht) (fun b s' hs => ?_) fun _ _ z => z.elim
  obtain ⟨H2, I2, q⟩ := hs
  cases b with
  | true =>
    rw [if_pos rfl] at q ⊢
    exact ha.run ip n k s0 c fs K J gd lv s' σ H2 D ok gc hn hk (g.next I2) q
  | false =>
    rw [if_neg Bool.false_ne_true] at q ⊢
    exact hb.run ip n k s0 c fs K J gd lv s' σ H2 D ok gc hn hk (g.next I2) q
/-! ### yield -/
/-- a new tuple is handed out; the lists at ow go on, all else that the generator knows is forgotten -/
def tGYield2 (B : GBd) (te : TE) : TG2 := fun D k σ H => k < B.rows.length ∧ te σ H fun x H1 => ∃ row p ow, B.rows[k]? = some row ∧ x = .ref p ∧ H1 p = some (.tup row) ∧ B.cn.lookup p = none ∧ Knows B.cn H1 ∧ Owns B.cn ow H1 ∧
  ∀ H2, Knows B.cn H2 → (∀ q ∈ ow, (B.cn ++ ow).lookup q.1 = some q.2 → H2 q.1 = some q.2) → D.nx (k + 1) σ H2
theorem gs2_yield {e : Expr} {yp pos : Pos} {te : TE} (he : ∀ tt G, PE (B.L.cx tt G) e te) (hco : B.L.env.scope.isCoroutine = false) (hi : interactive B.L.env = false) : GS2 B (.Expr (.Yield (some e) yp) pos) (tGYield2 B te) := by
  refine ⟨fun ip n k s0 c fs K J gd lv s σ H D ok gc hn hk hI ht => ?_⟩
  obtain ⟨M, sw, ow0, ipw, g⟩ := hI
  obtain ⟨hlt, ht⟩ := ht
  · obtain ⟨n, rfl⟩ : ∃ m, n = m + 1 := ⟨n - 1, by omega⟩
    refine seg_Expr_Yield gc.split gc.gd gc.guard ?_ hco hi
    rw [gc.over]
    refine wpAny_mono ((he _ _).run ip s σ H _ g.I ht) (fun v s' hv => ?_) fun _ _ z => z.elim
    obtain ⟨x, H1, I1, rv, row, p, ow, hrow, rfl, hp, hpc, hkn, how, q⟩ := hv
    obtain rfl : v = Value.ref p := rv
    have g1 : GIn B k ip σ H1 M sw ow0 ipw s' := ⟨g.wk, g.mM, g.lst, g.fr, g.ipy, g.sz, I1⟩
    have stp := g1.step ok hkn how (fp := fpOf B ip ow) fun b hb => by
      rcases List.mem_cons.mp hb with z | z
      · exact .inl z
      · exact .inr (List.mem_append.mp z)
    intro kap hkap
    refine ⟨pinsAt (fpOf B ip ow) s'.heap, k, hn, ?_, fun s2 hw => hkap .none s2 ?_⟩
    · obtain ⟨hz, its, ri, hI⟩ := I1.hok p _ hp
      refine ok.cons.item k M _ row p sw s' hrow g.wk stp ?_ hz ⟨its, ri, hI⟩ fun z => ?_
      · by_cases hm : p ∈ adr M
        · exact .inl hm
        · cases z : sw.heap.get? p with
          | none => exact .inr rfl
          | some ob =>
            exfalso
            have G0 : (B.cn ++ ow0).lookup p = none := by
              cases q : (B.cn ++ ow0).lookup p with
              | none => rfl
              | some u =>
                rcases look_app q with z | ⟨_, z⟩
                · rw [hpc] at z; cases z
                · exact absurd ((g.mM p).mpr (.inr (.inr (List.mem_map.mpr ⟨(p, u), mem_look z, rfl⟩)))) hm
            by_cases hl : B.L.n0 < p
            · have y := I1.base.frzs p ob _ (gOf_frz G0 hl (fun z => hm ((g.mM p).mpr (.inr (.inl z)))) z)
              rw [hp] at y; cases y
            · have hne : p ≠ B.L.n0 := fun z => hm ((g.mM p).mpr (.inl z))
              have hl2 : p < B.L.n0 := Nat.lt_of_le_of_ne (Nat.le_of_not_lt hl) hne
              have y := I1.base.free p ob (by show (trn sw.heap B.L.n0).get? p = _; rw [trn_get hl2]; exact z) (gOf_old G0 hl) (by simp [Pl.cx])
              rw [hp] at y; cases y
      · obtain ⟨q, hq, e⟩ := List.mem_map.mp z
        have y := (of_pinsAt hq).1
        rw [e] at y
        rcases List.mem_cons.mp y with z | z
        · have f0 : H1 B.L.n0 = none := I1.free
          rw [← z, hp] at f0; cases f0
        · rcases List.mem_append.mp z with z | z
          · obtain ⟨r, hr, e2⟩ := List.mem_map.mp z
            have := (I1.pin r (List.mem_append_right _ hr)).2.1
            rw [e2, hp] at this; cases this
          · obtain ⟨r, hr, e2⟩ := List.mem_map.mp z
            obtain ⟨⟨xs, e3⟩, e4, _⟩ := how r hr
            rw [e2, hp, e3] at e4; cases e4
    · have w := g1.woken ok hkn how hw
      refine hk n (k + 1) s2 s2 .next (by omega) ⟨σ, _, w, q _ (fun b u e => gOf_kn (look_app1 e)) fun r _ e => gOf_kn e⟩
end
end GnX
namespace GnX
open PySem PySem.Spec PyProof.Rows L2 GenW
/-! ### for, in a generator -/
section
variable {prog : Program} {w : World} {A : Around} {R : GenEnd} {Y : Protocol} {n : Nat} {s0 : Shared} {fs : List Frame} {s : Shared} {env : Env}
theorem seg_forTurn {target : Expr} {it : Value} {body : List Stmt}
    (h : wpAny (model prog w) (A.over (.forLoop target it body [] env) fs) (pyNext it) (fun r s1 => match r with
      | none => Seg (model prog w) A R Y n s0 (.block [] env) ((model prog w).den (.block [] env)) fs s1
      | some v => wpAny (model prog w) (A.over (.forLoop target it body [] env) fs) (letOwnedTupleGo target it v) (fun _ s2 =>
          wpAny (model prog w) (A.over (.forLoop target it body [] env) fs) (assign target env v) (fun _ s3 => Seg (model prog w) A R Y n s0 (.forLoop target it body [] env) ((execs body env).wrap (fun f => match f with
            | .next | .cont => .pure (.again (.forLoop target it body [] env))
            | .brk => .pure (.done .next)
            | .ret v => .pure (.done (.ret v))) (fun e => (do noteFrame e env; theTreesLotGoes e : Sem Unit).wrap (fun _ => .raise e) .raise id id) id id) fs s3) (fun _ _ => False) s2) (fun _ _ => False) s1) (fun _ _ => False) s) :
    Seg (model prog w) A R Y n s0 (.forLoop target it body [] env) ((model prog w).den (.forLoop target it body [] env)) fs s := by
  show Seg _ A R Y n s0 _ ((forTurn target it body [] env).onRaise (fun x => do noteFrame x env; theTreesLotGoes x)) fs s
  unfold forTurn
  rw [Sem.onRaise_eq_wrap]
  refine seg_bind_wrap (wpAny_standAt ?_)
  refine seg_bind_wrap (wpAny_onRaise (wpAny_mono h (fun r s1 hr => ?_) fun _ _ z => z.elim))
  cases r with
  | none => exact seg_again rfl hr
  | some v =>
    refine seg_bind_wrap (wpAny_mono hr (fun _ s2 h2 => ?_) fun _ _ z => z.elim)
    refine seg_bind_wrap (wpAny_mono h2 (fun _ s3 h3 => ?_) fun _ _ z => z.elim)
    rw [Sem.bind_eq_wrap', Sem.wrap_wrap]
    rw [Sem.wrap_congr (execs body env) _ _ (K' := fun f => match f with
            | .next | .cont => .pure (.again (.forLoop target it body [] env))
            | .brk => .pure (.done .next)
            | .ret v => .pure (.done (.ret v))) (H' := (fun e => (do noteFrame e env; theTreesLotGoes e : Sem Unit).wrap (fun _ => .raise e) .raise id id))
        (fun f => by cases f <;> rfl)
        (fun e => by first | exact Sem.bind_eq_wrap _ _ | (show (do noteFrame e env; theTreesLotGoes e : Sem Unit).bind (fun _ => .raise e) = _; rw [Sem.bind_eq_wrap]))]
    exact h3
end
def tGFor2 (wi : TI) (g : L2.TG) (tb : TG2) : TG2 := fun D k σ H => wi σ H fun J H1 => ∃ W : Nat → Nat → Nat → L2.St → Hp → Prop, (∃ m, W 0 m k σ H1) ∧ ∀ i m k σ H, W i m k σ H →
  (J.stop i H ∧ D.nx k σ H) ∨ (J.go i H ∧ ∃ N : Nat → L2.St → Hp → Prop, (∀ k' σ' H', N k' σ' H' → ∃ m', m' < m ∧ W (i + 1) m' k' σ' H') ∧ ∀ x H', J.yld i H x H' → g x σ H' fun σ2 H2 => tb { nx := N, bk := D.nx, ct := N } k σ2 H2)
section
variable {B : GBd}
theorem gc2_loop {c c' : Code} {fs : List Frame} {gd : Bool → Bool} {k : Result → Sem PySem.Fin} {l kp : List Value} {p : Pos} (g : GC2 B c fs gd) (hw : c'.weight = 0) (hu : c'.cUnits = 0) : GC2 B c' (.ret k none (gd false) l c p kp :: fs) id where
  over := (over_loop hw hu).trans g.over
  split := by
    show (splitAtGen fs).map _ = none
    rw [g.split]; rfl
  guard := by
    show (gd false || fs.any Frame.guarded) = false
    rw [g.gd, g.guard]; rfl
  gd := rfl
theorem gs2_for {tg iter : Expr} {body : List Stmt} {pos : Pos} {wi : TI} {g : L2.TG} {tb : TG2} (hi : ∀ tt G, PI (B.L.cx tt G) tg iter wi) (hg : ∀ tt G, PG (B.L.cx tt G) tg g) (hb : GSs2 B body tb)
    (hs : ∀ x, foldedSetIterable iter B.L.env x = pure x) : GS2 B (.For tg iter body [] pos) (tGFor2 wi g tb) := by
  refine ⟨fun ip n k s0 c fs K J gd lv s σ H D ok gc hn hk hI ht => ?_⟩
  obtain ⟨M, sw, ow, ipw, g0⟩ := hI
  rw [arm_exec_For]
  refine seg_bind_wrap (wpAny_standAt ?_)
  refine seg_bind_wrap ?_
  rw [gc.over]
  refine wpAny_mono ((hi _ _).run ip s σ H _ g0.I ht) (fun v s1 h1 => ?_) fun _ _ z => z.elim
  refine seg_bind_wrap ?_
  rw [hs v]
  refine wpAny_pure (seg_bind_wrap (wpAny_standAt (seg_bind_wrap (wpAny_holding ?_))))
  rw [gc.over]
  refine wpAny_mono h1 (fun itv s2 h2 => ?_) fun _ _ z => z.elim
  obtain ⟨it, fp, tn, JJ, H2, rfl, I2, T, st2, f2, W, ⟨m0, w0⟩, turn⟩ := h2
  refine seg_call fun p => ?_
  have gl := fun (kk : Result → Sem PySem.Fin) => gc2_loop (k := kk) (c' := .forLoop tg (.ref it) body [] B.L.env) (l := lv []) (kp := []) (p := p) gc rfl rfl
  have fy : ∀ b ∈ fp, B.L.n0 ≤ b := fun b hb => by
    rcases (f2 b hb).2.2.2.1 with z | z
    · exact absurd z (by simp [Pl.cx])
    · have hz : (trn sw.heap B.L.n0).objs.size ≤ b := z
      rw [trn_size g0.sz] at hz
      exact hz
  have stat : ∀ (tt : Shared) (G : Hp) {H' : Hp}, tt.heap.objs.size = B.L.n0 → (∀ b ∈ fp, H' b = none) → ∀ b ∈ fp, FpOk (B.L.cx tt G) ip H' b := fun tt G H' hz hn b hb =>
    ⟨hn b hb, (f2 b hb).2.1, (f2 b hb).2.2.1, .inr (by show tt.heap.objs.size ≤ b; rw [hz]; exact fy b hb), fun x c e => (ok.pl.cells e).elim, (f2 b hb).2.2.2.2.2⟩
  have unpin : ∀ {k' : Nat} {σ' : L2.St} {H' : Hp} {s' : Shared} {pl : Pins}, GI2 B k' (ip ++ pl) σ' H' s' → GI2 B k' ip σ' H' s' := fun {k' σ' H' s' pl} x => by
    obtain ⟨M, sw, ow, ipw, g⟩ := x
    exact ⟨M, sw, ow, ipw, g.wk, g.mM, g.lst, g.fr, fun p hp => g.ipy p (List.mem_append_left _ hp), g.sz, g.I.unpinned⟩
  have loop : ∀ (m i n k : Nat) (s0 s : Shared) (σ : L2.St) (H : Hp), n + k = B.rows.length → W i m k σ H → GI2 B k ip σ H s → tn i s.heap → (∀ b ∈ fp, H b = none) →
      SegB B n s0 (.forLoop tg (.ref it) body [] B.L.env) ((model B.L.P B.L.w).den (.forLoop tg (.ref it) body [] B.L.env))
        (.ret (fun r => ((match r with | .ok f => (.pure f : Sem Flow) | .error e => .raise e).onRaise (cameBack B.L.env)).wrap K J gd lv) none (gd false) (lv []) c p [] :: fs) s := by
    intro m
    induction m using Nat.strongRecOn with
    | ind m ih =>
      intro i n k s0 s σ H hn w hI st fr
      obtain ⟨M, sw, ow, ipw, g⟩ := hI
      have hsz : (trn sw.heap B.L.n0).objs.size = B.L.n0 := trn_size g.sz
      refine seg_forTurn ?_
      rw [(gl _).over]
      rcases turn i m k σ H w with ⟨stop, qn⟩ | ⟨go, Nx, hN, step⟩
      · refine wpAny_mono (T.done (B.L.cx { sw with heap := trn sw.heap B.L.n0 } (gOf B.L.n0 (B.cn ++ ow) ipw sw.heap)) rfl rfl rfl rfl i ip s σ H (fun _ _ => False) g.I (stat { sw with heap := trn sw.heap B.L.n0 } (gOf B.L.n0 (B.cn ++ ow) ipw sw.heap) hsz fr) st stop) (fun r s4 hr => ?_) fun _ _ z => z
        obtain ⟨rfl, I4⟩ := hr
        exact seg_leaf (.ok .next) (hk n k s0 s4 .next hn ⟨σ, H, g.next I4, qn⟩)
      · refine wpAny_mono (T.item (B.L.cx { sw with heap := trn sw.heap B.L.n0 } (gOf B.L.n0 (B.cn ++ ow) ipw sw.heap)) rfl rfl rfl rfl i ip s σ H (fun _ _ => False) g.I (stat { sw with heap := trn sw.heap B.L.n0 } (gOf B.L.n0 (B.cn ++ ow) ipw sw.heap) hsz fr) st go) (fun r s4 hr => ?_) fun _ _ z => z
        obtain ⟨u, rfl, h4⟩ := hr
        refine wpAny_mono h4 (fun _ s5 h5 => ?_) fun _ _ z => z
        obtain ⟨x, H5, I5, r5, y5, st5, fr5⟩ := h5
        have I5' := I5.pinned (stat { sw with heap := trn sw.heap B.L.n0 } (gOf B.L.n0 (B.cn ++ ow) ipw sw.heap) hsz fr5) (T.obj _ _ st5)
        refine wpAny_mono ((hg { sw with heap := trn sw.heap B.L.n0 } (gOf B.L.n0 (B.cn ++ ow) ipw sw.heap)).run _ s5 σ H5 x u _ I5' r5 (step x H5 y5)) (fun _ s6 h6 => ?_) fun _ _ z => z.elim
        obtain ⟨σ6, H6, I6, q6⟩ := h6
        refine hb.run (ip ++ pinsAt fp s5.heap) n k s0 _ _ _ _ id id s6 σ6 H6 { nx := Nx, bk := D.nx, ct := Nx } ok (gl _) hn (fun n' k' s0' s7 f hn' hs => ?_) ⟨M, sw, ow, ipw, g.wk, g.mM, g.lst, g.fr, fun q hq => ?_, g.sz, I6⟩ q6
        · have again : ∀ {σ7 : L2.St} {H7 : Hp}, GI2 B k' (ip ++ pinsAt fp s5.heap) σ7 H7 s7 → Nx k' σ7 H7 → SegB B n' s0' (.forLoop tg (.ref it) body [] B.L.env) (.pure (.again (.forLoop tg (.ref it) body [] B.L.env)))
              (.ret (fun r => ((match r with | .ok f => (.pure f : Sem Flow) | .error e => .raise e).onRaise (cameBack B.L.env)).wrap K J gd lv) none (gd false) (lv []) c p [] :: fs) s7 := fun {σ7 H7} I7 n7 => by
            obtain ⟨m', hm, w7⟩ := hN k' σ7 H7 n7
            obtain ⟨M7, sw7, ow7, ipw7, g7⟩ := id I7
            have pin7 : ∀ b ∈ fp, ∀ o, s5.heap.get? b = some o → s7.heap.get? b = some o ∧ H7 b = none := fun b hb o e =>
              let z := g7.I.pin (b, o) (List.mem_append_right _ (List.mem_append_right _ (mem_pinsAt hb e)))
              ⟨z.1, z.2.1⟩
            refine seg_again rfl (ih m' hm (i + 1) n' k' s0' s7 σ7 H7 hn' w7 (unpin I7) (T.keep _ _ _ st5 fun b hb o e => (pin7 b hb o e).1) fun b hb => ?_)
            obtain ⟨o, e, _⟩ := T.obj _ _ st5 b hb
            exact (pin7 b hb o e).2
          cases f with
          | next => obtain ⟨σ7, H7, I7, n7⟩ := hs; exact again I7 n7
          | cont => obtain ⟨σ7, H7, I7, n7⟩ := hs; exact again I7 n7
          | brk => obtain ⟨σ7, H7, I7, q7⟩ := hs; exact seg_leaf (.ok .next) (hk n' k' s0' s7 .next hn' ⟨σ7, H7, unpin I7, q7⟩)
          | ret u => exact hs.elim
        · rcases List.mem_append.mp hq with z | z
          · exact g.ipy q z
          · exact fy q.1 (of_pinsAt z).1
  exact loop m0 0 n k s0 s2 σ H2 hn w0 (g0.next I2) st2 fun b hb => (f2 b hb).1
end
end GnX
namespace GnX
open PySem PySem.Spec PyProof.Rows L2 GenW
/-! ### the call of a generator def -/
abbrev SpGn := List V → Hp → Kn → List (List V) → Prop
/-- a generator that has not begun: rows is what it will hand out, cn what it reads of its caller's things -/
structure GNew (P : Program) (w : World) (base : Heap) (k : Nat) (outer : List Env) (cn : Kn) (rows : List (List V)) (H : Hp) (s : Shared) (a : Addr) (g : Nat) (c : Code) (s' : Shared) : Prop where
  lt0 : s.heap.objs.size < a
  lta : a < s'.heap.objs.size
  gen : s'.heap.IsGen a g
  st : s'.gens[g]? = some (.fresh c)
  os : s'.os = s.os
  bare : AllBare s'.gens
  kept : ∀ b o, s.heap.get? b = some o → s'.heap.get? b = some o
  fr : ∃ o, s'.heap.get? s.heap.objs.size = some o ∧ ∀ v, o.data ≠ .cell v
  clo : Clo cn
  knows : Knows cn H
  go : ∀ (A : Around) (WK : Nat → Pins → Shared → Prop) (CY : Nat → Pins → Value → Shared → Prop) (CE : Shared → Prop), Room k A → A.frames = some outer → Cons P w base outer cn rows WK CY CE →
    ∀ s2, WK 0 (pinsAt [s.heap.objs.size] s'.heap) s2 → Seg (model P w) A (RP CE) (YP WK CY rows.length) rows.length s2 c ((model P w).den c) [] s2
structure GFact (P : Program) (w : World) (K : PySem.W.Frag) (mg : Str → Option Value) (base : Heap) (k : Nat) (f : Addr) (fd : FuncData) (ps : List Str) (sp : SpGn) : Prop where
  len : ∀ vs H cn rows, sp vs H cn rows → vs.length = ps.length
  run : ∀ (A : Around) (outer : List Env) (s : Shared) (H : Hp) (args : Args) (us : List Value) (vs : List V) (cn : Kn) (rows : List (List V)), Room k A → Env0 P w K mg base A outer s H → BindsTo s fd args (ps.zip us) → Vals vs us → sp vs H cn rows →
    codeAny (model P w) A (.call (.ref f) args) (fun r s' => match r with | .ok (.ret u) => ∃ a g c, u = .ref a ∧ GNew P w base k outer cn rows H s a g c s' | _ => False) s
def plOf (P : Program) (w : World) (K : PySem.W.Frag) (mg : Str → Option Value) (base : Heap) (N : List Str) (qual : Str) (scope : Scope) (f : Addr) (cd : Value) (A : Around) (outer : List Env) (n0 : Nat) : Pl := ⟨P, w, K, mg, base, N, qual, scope, f, cd, A, outer, n0⟩
theorem gfact_of {P : Program} {w : World} {K : PySem.W.Frag} {mg : Str → Option Value} {base : Heap} {k : Nat} {f : Addr} {name qual : Str} {params : Arguments} {body : List Stmt} {scope : Scope} {dV kV doc pm cdv ct oc : Value} {an od : Option Addr}
    {osl : Array (Option Value)} {N ps : List Str} {sp : SpGn} (lk : K.lookup f = some ⟨oc, od, .func (PySem.W.fnOf name qual params body scope dV kV doc pm an cdv ct), osl⟩) (hcd : PySem.W.codeIn K cdv qual = true) (S : GScope N ps scope)
    (nocell : ∀ y ∈ scope.names, y.2 ≠ .cell ∧ y.2 ≠ .free) (len : ∀ vs H cn rows, sp vs H cn rows → vs.length = ps.length) (hcn : ∀ vs H cn rows, sp vs H cn rows → Clo cn ∧ Knows cn H)
    (hbody : ∀ (A : Around) (outer : List Env) (n0 : Nat) (H : Hp) (vs : List V) (cn : Kn) (rows : List (List V)) (WK : Nat → Pins → Shared → Prop) (CY : Nat → Pins → Value → Shared → Prop) (CE : Shared → Prop), Room k (A.deeper (envOfC qual scope n0 f cdv)) → sp vs H cn rows →
      ∃ t, GSs2 ⟨plOf P w K mg base N qual scope f cdv A outer n0, cn, rows, WK, CY, CE⟩ body t ∧ ∀ H0, Knows cn H0 → t { nx := fun j _ H' => j = rows.length ∧ Knows cn H' } 0 (start N vs) H0) :
    GFact P w K mg base (k + 1) f (PySem.W.fnOf name qual params body scope dV kV doc pm an cdv ct) ps sp := by
  refine ⟨len, fun A outer s H args us vs cn rows hr e0 hb r hsp => ?_⟩
  have hl := len _ _ _ _ hsp
  obtain ⟨hclo, hkn⟩ := hcn _ _ _ _ hsp
  have KX : K.In s.heap := e0.mod.kin.keeps fun b o e => (e0.bs b o e).1
  have lim : s.heap.NoLimit := e0.mod.nolimit.keeps fun b o e => (e0.bs b o e).1
  have hkind : ∀ y ∈ ps.zip us, scope.names.lookup y.1 = some .local ∨ (scope.names.lookup y.1 = some .cell ∧ ((cellsFrom (s.heap.objs.size + 1) scope.names []).lookup y.1).isSome = true) := fun ⟨n, v⟩ hy => by
    rcases S.par n (List.of_mem_zip hy).1 with q | q
    · exact .inl q
    · exact .inr ⟨q, PySem.W.cellsFrom_some _ _ _ (.inl q)⟩
  refine codeAny_call_generator hr.depth (KX _ _ lk) rfl S.co S.gen rfl (PySem.W.codeRec_of KX hcd) (hb _ _ _ _ ?_)
  refine wpAny_newFunctionEnv_cells S.kind hkind fun env he s1 x => ?_
  subst he
  have lim1 : s1.heap.NoLimit := lim.keeps x.toInCall.keep
  refine ⟨lim1, ?_⟩
  have I1 : Inv (gcxOf P w K mg base N qual scope f cdv A outer s H (fun _ _ _ => False) []) [] (start N vs) H s1 := inv_startG S hr.hd e0 hl r x
  obtain ⟨h1, tk, es1, hk1⟩ := x.done
  have gen1 : s1.gens = s.gens := by rw [es1]
  have lt1 : s.heap.objs.size < s1.heap.objs.size := x.toInCall.ns.lt
  have main : ∀ (go : Obj) (nm qn : Value) (tk2 : Nat), go.cls = .type "generator" → go.data = .fields #[.int s1.gens.size 0, nm, qn] → go.slots = #[] → (∀ h : Heap, (h.push go).get? h.objs.size = some go) →
      ∃ a g c, Value.ref s1.heap.objs.size = .ref a ∧ GNew P w base (k + 1) outer cn rows H s a g c { s1 with gens := s1.gens.push (.fresh (.func body (envOfC qual scope s.heap.objs.size f cdv))), toks := tk2, heap := s1.heap.push go } := by
    intro go nm qn tk2 hgc hgd hgs hgp
    obtain ⟨m, ⟨o0, es, ep, ho, hd, hrr⟩, hlk⟩ := I1.loc
    have ho : s1.heap.get? s.heap.objs.size = some o0 := ho
    have ho' : (s1.heap.push go).get? s.heap.objs.size = some o0 := Heap.get?_push_of_some _ ho
    refine ⟨s1.heap.objs.size, s1.gens.size, _, rfl, lt1, ?_, ⟨go, nm, qn, hgp _, hgc, hgd, hgs⟩, Array.getElem?_push_size .., by rw [es1], AllBare.push (by rw [gen1]; exact e0.bare) rfl, fun b o e => Heap.get?_push_of_some _ (x.toInCall.keep b o e), ⟨o0, ho', fun v z => by rw [hd] at z; cases z⟩, hclo, hkn, ?_⟩
    · show _ < (s1.heap.push _).objs.size
      rw [Heap.size_push]; exact Nat.lt_succ_self _
    intro Aw WK CY CE hrw hfr hcons s2 hwk
    have hN := hcons.need _ _ _ hwk
    obtain ⟨t, ht, hq⟩ := hbody Aw outer s.heap.objs.size H vs cn rows WK CY CE (hrw.deeper _) hsp
    have plok : (plOf P w K mg base N qual scope f cdv Aw outer s.heap.objs.size).Ok := by
      refine ⟨e0.mod, S.kind, nocell, hrw.hd, hfr, e0.bsz, fun b hb => ?_⟩
      obtain ⟨_, o, ho, _⟩ := e0.funs.mem hb
      exact Heap.lt_size ho
    have ok : (⟨plOf P w K mg base N qual scope f cdv Aw outer s.heap.objs.size, cn, rows, WK, CY, CE⟩ : GBd).Ok := ⟨plok, hclo, hcons⟩
    have ho2 : s2.heap.get? s.heap.objs.size = some o0 := hN.pin (s.heap.objs.size, o0) (mem_pinsAt (h := s1.heap.push go) List.mem_cons_self ho')
    have R : Rest (plOf P w K mg base N qual scope f cdv Aw outer s.heap.objs.size) (cn ++ []) [] (start N vs) s2 := by
      rw [List.append_nil]
      refine ⟨hN.bare, hN.bs, hN.funs, ⟨m, ⟨o0, es, ep, ho2, hd, hrr⟩, fun i y v e1 e2 e3 => ?_⟩, hN.cn, fun b u e => ?_, fun p hp => absurd hp (by simp), I1.len⟩
      · obtain ⟨u, ru, l⟩ := hlk i y v e1 e2 e3
        refine ⟨u, ru, ?_⟩
        rcases l with l | ⟨_, c, e, _⟩
        · exact .inl l
        · exact (plok.cells e).elim
      · have e1 := hkn b u e
        refine ⟨?_, fun z => ?_, fun z => ?_, fun z => absurd z (by simp)⟩
        · cases q : base.get? b with
          | none => exact q
          | some ob =>
            have := (e0.bs b ob q).2
            rw [e1] at this; cases this
        · have := e0.frf b z
          rw [e1] at this; cases this
        · have z : b = s.heap.objs.size := z
          have := e0.hok.fresh (Nat.le_of_eq z.symm)
          rw [e1] at this; cases this
    have g0 : GI2 ⟨plOf P w K mg base N qual scope f cdv Aw outer s.heap.objs.size, cn, rows, WK, CY, CE⟩ 0 [] (start N vs) (gOf s.heap.objs.size (cn ++ []) [] s2.heap) s2 := by
      refine ⟨_, s2, [], [], hwk, fun b => ?_, fun q hq => absurd hq (by simp), fun b hb => ?_, fun p hp => absurd hp (by simp), Nat.le_of_lt (Heap.lt_size ho2), rebase plok R (by rw [List.append_nil]; exact hclo)⟩
      · refine ⟨fun hb => ?_, fun hb => ?_⟩
        · obtain ⟨p, hp, e⟩ := List.mem_map.mp hb
          have y := (of_pinsAt hp).1
          rw [e] at y
          exact .inl (List.mem_singleton.mp y)
        · rcases hb with z | z | z
          · exact List.mem_map.mpr ⟨(s.heap.objs.size, o0), mem_pinsAt (h := s1.heap.push go) List.mem_cons_self ho', z.symm⟩
          · exact absurd z (by simp)
          · exact absurd z (by simp)
      · cases q : (cn ++ []).lookup b with
        | none => rfl
        | some u => exact absurd hb (R.knA b u q).2.1
    refine seg_func ?_
    refine ht.run [] rows.length 0 s2 _ [] _ _ id id s2 (start N vs) _ _ ok ⟨over_func, rfl, rfl, rfl⟩ (Nat.add_zero _) (fun n j s0 s' fl hn hs => ?_) g0 (hq _ fun b u e => gOf_kn (look_app1 e))
    cases fl with
    | next =>
      obtain ⟨σ', H', ⟨M, sw, ow, ipw, g⟩, hj, hk'⟩ := hs
      subst hj
      have stp := g.step ok hk' (ow' := []) (fun q hq => absurd hq (by simp)) (fp := []) fun b hb => absurd hb (by simp)
      exact seg_end (.ok (.ret .none)) (.inl ⟨.inl rfl, hcons.done M sw s' g.wk stp⟩)
    | brk => obtain ⟨_, _, _, q⟩ := hs; exact q.elim
    | cont => obtain ⟨_, _, _, q⟩ := hs; exact q.elim
    | ret u => exact hs.elim
  exact main _ _ _ _ rfl rfl rfl fun h => Heap.get?_push_size _ rfl
/-- an expression whose value is such a generator -/
abbrev TGn2 := L2.St → Hp → (Kn → List (List V) → Hp → Prop) → Prop
structure PGn (X : Cx) (k : Nat) (e : Expr) (tg : TGn2) : Prop where
  run : ∀ (pins : Pins) (s : Shared) (σ : L2.St) (H : Hp) (Q : Kn → List (List V) → Hp → Prop), Inv X pins σ H s → tg σ H Q → wpAny (model X.prog X.w) X.A (eval e X.env)
    (fun u s' => ∃ cn rows a g c H1 sc, u = .ref a ∧ Inv X pins σ H1 sc ∧ GNew X.prog X.w X.base k X.stack cn rows H1 sc a g c s' ∧ Q cn rows H1) X.xe s
def tCallGn (sp : SpGn) (dvs : List V) (t : TA) : TGn2 := fun σ H Q => t σ H fun vs H1 => ∃ cn rows, sp (vs ++ dvs) H1 cn rows ∧ Q cn rows H1
section
variable {X : Cx} {k : Nat} {f : Addr} {fd : FuncData} {ps : List Str} {sp : SpGn} {dvs : List V} {ds : List Value} {x : Str} {p pos : Pos}
theorem pgn_call {e : Expr} {es : List Expr} {t : TA} (F : GFact X.prog X.w X.K X.mg X.base k f fd ps sp) (hr : Room k X.A) (hg : Gl X x) (hm : X.mg x = some (.ref f)) (hk : PySem.W.keepIn X.K (.ref f) = true) (hb : Binds X.K fd ps ds) (hd : Vals dvs ds)
    (ha : PA X (e :: es) t) (hdb : (x == ("__debug__" : Str)) = false := by decide) (he : starEach (e :: es) X.env = (false, eval e X.env) :: starEach es X.env := by rfl) (hpl : (backTo pos (starEach es X.env)).any (·.1) = false := by rfl) :
    PGn X k (.Call (.Name x p) (e :: es) [] pos) (tCallGn sp dvs t) := by
  refine ⟨fun pins s σ H Q I h => ?_⟩
  refine wpAny_Call_Name_kw (ld_glob I hg hm ?_ hdb)
  refine PySem.W.callWith_K (h₀ := X.base) I.ok.mod.kin hk (thn (ha.run pos pins s σ H _ I h) fun us s1 ⟨vs, H1, I1, r, cn, rows, hs, q⟩ => ⟨I1.kIn, ?_⟩) he hpl
  have r2 : Vals (vs ++ dvs) (us ++ ds) := r.append hd
  have hl2 : (us ++ ds).length = ps.length := by rw [← r2.length]; exact F.len _ _ _ _ hs
  refine wpAny_call (codeAny_mono (F.run X.A X.stack s1 H1 ⟨us, []⟩ (us ++ ds) (vs ++ dvs) cn rows hr I1.env0 (hb s1 us I1.kIn hl2) r2 hs) fun r s' hq => ?_)
  cases r with
  | error e => exact False.elim hq
  | ok fl =>
    cases fl with
    | ret u =>
      obtain ⟨a, g, c, e, hn⟩ := hq
      exact ⟨cn, rows, a, g, c, H1, s1, e, I1, hn, q⟩
    | next => exact False.elim hq
    | brk => exact False.elim hq
    | cont => exact False.elim hq
end
end GnX
namespace GnX
open PySem PySem.Spec PyProof.Rows L2 GenW
open Sem (wp)
/-! ### next(g), the sleeper told as it is -/
theorem resume_sl {α : Type} {M : Model} {A : Around} {R : GenEnd} {Y : Protocol} {n g : Nat} {gs : GenState} {r : Resume} {l : List Value} {k : GenResult → Sem α} {Q : α → Shared → Prop} {E : Value → Shared → Prop} {s : Shared}
    (at0 : s.gens[g]? = some gs) (go : gs.Goes M A R Y n r (s.setGen g .running))
    (ends : ∀ x s1, R n (s.setGen g .running) x s1 → wpAny M A (k (End.ret x).result) Q E (s1.setGen g .finished))
    (item : ∀ v s1 k' l' c' p' fs', Y (n - 1) (s.setGen g .running) v s1 (fun r' s'' => match n with | 0 => False | m + 1 => Seg M A R Y m s'' c' (k' r') fs' s'') →
      wpAny M A (k (.yielded v)) Q E (s1.setGen g (.suspended k' l' c' p' fs' false))) : wpAny M A (.resume g r l k) Q E s := by
  intro Γ p inA
  rw [Sem.wp_resume]
  have out : ∀ e1 s1, SegEnd R Y n (Seg.next M A R Y n) (s.setGen g .running) e1 s1 → e1.quiet = true ∧ wp M Γ (k e1.result) (fun a _ s' => Q a s') (fun e _ s' => E e s') p (s1.setGen g e1.genState) := by
    intro e1 s1 z
    cases e1 with
    | ret x => exact ⟨rfl, ends x s1 z Γ p inA⟩
    | susp v g1 l1 k1 c1 p1 fs1 =>
      obtain ⟨qt, y⟩ := z
      have cl : (g1 || fs1.any Frame.guarded) = false := by
        have := qt
        unfold End.quiet at this
        simpa using this
      refine ⟨qt, ?_⟩
      show wp M Γ (k (.yielded v)) _ _ p (s1.setGen g (.suspended k1 l1 c1 p1 fs1 (g1 || fs1.any Frame.guarded)))
      rw [cl]
      refine item v s1 k1 l1 c1 p1 fs1 ?_ Γ p inA
      cases n with
      | zero => exact y
      | succ m => exact y
  have wk := fun c' => inA.wake c' p
  cases gs with
  | fresh c =>
    obtain ⟨rfl, sg⟩ := go
    obtain ⟨e1, s1, run, z⟩ := seg_iff.mp sg (Γ.wake c p) p rfl (wk c)
    obtain ⟨qt, z⟩ := out e1 s1 z
    refine ⟨e1.result, _, ?_, z⟩
    unfold Wakes
    rw [at0]
    exact ⟨e1, s1, run, qt, rfl, rfl⟩
  | suspended k0 l0 c0 p0 fs0 cl =>
    obtain ⟨e1, s1, run, z⟩ := seg_iff.mp go (Γ.wake c0 p) p0 rfl (wk c0)
    obtain ⟨qt, z⟩ := out e1 s1 z
    refine ⟨e1.result, _, ?_, z⟩
    unfold Wakes
    rw [at0]
    exact ⟨e1, s1, run, qt, rfl, rfl⟩
  | running => exact go.elim
  | finished => exact go.elim
section
variable {P : Program} {w : World} {A : Around} {E : Value → Shared → Prop} {s : Shared}
theorem next_sl {a g n : Nat} {gs : GenState} {CE : Shared → Prop} {Y : Protocol} {Q : Option Value → Shared → Prop} (calm : A.handled = none) (lim : s.heap.NoLimit) (deep : A.depth < recursionLimit) (isg : s.heap.IsGen a g) (at0 : s.gens[g]? = some gs)
    (go : gs.Goes (model P w) A.in1 (RP CE) Y n (.send .none) (s.setGen g .running))
    (item : ∀ v s1 k' l' c' p' fs', Y (n - 1) (s.setGen g .running) v s1 (fun r' s'' => match n with | 0 => False | m + 1 => Seg (model P w) A.in1 (RP CE) Y m s'' c' (k' r') fs' s'') → Q (some v) (s1.setGen g (.suspended k' l' c' p' fs' false)))
    (ends : ∀ s1, CE s1 → ∀ h', (∀ b o, s1.heap.get? b = some o → h'.get? b = some o) → Q none { s1.setGen g .finished with heap := h' }) : wpAny (model P w) A (pyNext (.ref a)) Q E s := by
  unfold pyNext
  refine wpAny_bind (wpAny_attempt ?_)
  refine wpAny_callSpecial?_slot (name := Str.ofString "__next__") isg.typeIs slot_gen_next ?_
  refine wpAny_call_entry slot_gen_next isg.typeIs entry_gen_next ?_ (args_gen_next _)
  show wpAny _ A.in1 (Builtin.Generator.genWake (.ref a) (.send .none)) _ _ s
  unfold Builtin.Generator.genWake
  refine wpAny_bind (wpAny_holding (wpAny_genNumber isg ?_))
  refine wpAny_bind (wpAny_genState at0 ?_)
  have sl : (∃ c, gs = .fresh c) ∨ (∃ k l c p fs cl, gs = .suspended k l c p fs cl) := by
    cases gs with
    | fresh c => exact .inl ⟨c, rfl⟩
    | suspended k l c p fs cl => exact .inr ⟨k, l, c, p, fs, cl, rfl⟩
    | running => exact go.elim
    | finished => exact go.elim
  have fin : ∀ x s1, RP CE n (s.setGen g .running) x s1 → (x = .ok (.ret .none) ∨ x = .ok .next) ∧ CE s1 := fun x s1 hx => by
    rcases hx with hx | ⟨_, _, z⟩
    · exact hx
    · exact z.elim
  rcases sl with ⟨c, rfl⟩ | ⟨k, l, c, p, fs, cl, rfl⟩
  all_goals
    refine wpAny_bind (wpAny_roomToWake lim deep ?_)
    show wpAny _ A.in1 (.resume g (.send .none) [] _) _ _ s
    refine resume_sl at0 go (fun x s1 hx => ?_) fun v s1 k' l' c' p' fs' hv => wpAny_pure ⟨v, rfl, wpAny_pure (item v s1 k' l' c' p' fs' hv)⟩
    obtain ⟨hr, hx⟩ := fin x s1 hx
    have er : End.result (.ret x) = .returned .none := by rcases hr with z | z <;> rw [z] <;> rfl
    first | rw [er] | simp only [er]
    show wpAny _ A.in1 (newExc (.type "StopIteration") [] >>= _) _ _ _
    simp only [newExc, newTuple]
    refine wpAny_bind (wpAny_bind (wpAny_newObj_type ?_ (by size_fits)))
    refine wpAny_bind (m := firstArgMember _ _) (wpAny_of_eq (a := Value.none) (by first | rfl | (simp only [firstArgMember]; rfl)) ?_)
    refine wpAny_newObj_type ?_ (by size_fits)
    simp only [raiseNew]
    refine wpAny_bind (wpAny_bind (wpAny_handled ?_))
    first | rw [show A.in1.handled = none from calm] | rw [calm]
    refine wpAny_throw (wpAny_bind ?_)
    refine wpAny_isInstance (T := "StopIteration") (b := true) ⟨_, Heap.get?_push_size _ rfl, rfl⟩ isSubtype_stop ?_
    exact wpAny_pure (ends s1 hx _ fun b o e => Heap.get?_push_of_some _ (Heap.get?_push_of_some _ e))
end
end GnX
namespace GnX
open PySem PySem.Spec PyProof.Rows L2 GenW
/-! ### the consumer's state behind a turn of the generator -/
/-- not of the entry, or an iterator that is walked -/
def Yng (X : Cx) (b : Addr) : Prop := ∀ o, X.s_0.heap.get? b = some o → b ∈ X.ex
/-- the generator's things apart from ours -/
def Apt (X : Cx) (pins M : Pins) : Prop := ∀ q ∈ M, Yng X q.1 ∧ ∀ p ∈ X.pn ++ pins, p.1 ≠ q.1
section
variable {X : Cx} {pins M M' : Pins} {σ : L2.St} {H : Hp} {s s1 : Shared} {cn : Kn}
theorem adr_mem {b : Addr} (h : b ∈ adr M) : ∃ q ∈ M, q.1 = b := List.mem_map.mp h
theorem inv_turn (I : Inv X (pins ++ M) σ H s) (stp : Step X.prog X.w X.stack cn M s M' s1) (c : Clo cn) (hk : Knows cn H) (yg : Apt X pins M) : Inv X pins σ H s1 := by
  have mN : ∀ b, b ∈ adr M → H b = none ∧ b ≠ X.env.locals ∧ Yng X b ∧ (∀ p ∈ X.pn ++ pins, p.1 ≠ b) ∧ ∃ o, s.heap.get? b = some o ∧ ∀ v, o.data ≠ .cell v := fun b hb => by
    obtain ⟨q, hq, rfl⟩ := adr_mem hb
    obtain ⟨a1, a2, a3, _, a5⟩ := I.pin q (List.mem_append_right _ (List.mem_append_right _ hq))
    exact ⟨a2, a3, (yg q hq).1, (yg q hq).2, q.2, a1, a5⟩
  have cN : ∀ b, H b = none → cn.lookup b = none := fun b h => by
    cases q : cn.lookup b with
    | none => rfl
    | some u => rw [hk b u q] at h; cases h
  have any : ∀ b o, s.heap.get? b = some o → b ∉ adr M → cn.lookup b = none → ∃ sl, s1.heap.get? b = some { o with slots := sl } := fun b o e hm hc => by
    by_cases hf : b ∈ frs X.stack
    · exact stp.slot b o e hf
    · exact ⟨o.slots, stp.keep b o e hm hc hf⟩
  have s0M : ∀ b o, X.s_0.heap.get? b = some o → b ∉ X.ex → b ∉ adr M := fun b o e hx hb => hx ((mN b hb).2.2.1 o e)
  have s0L : ∀ b o, X.s_0.heap.get? b = some o → b ≠ X.env.locals := fun b o e => Nat.ne_of_lt (Nat.lt_of_lt_of_le (Heap.lt_size e) I.ok.above)
  have cellK : ∀ x c, X.env.cells.lookup x = some c → ∀ v, s.heap.IsCell c v → s1.heap.IsCell c v := fun x b e v ⟨o, ho, hd⟩ => by
    have hm : b ∉ adr M := fun z => by
      obtain ⟨_, _, _, _, o', e', nd⟩ := mN b z
      rw [ho] at e'; cases e'
      exact nd v hd
    obtain ⟨sl, q⟩ := any b o ho hm (cN b (I.freeC x b e))
    exact ⟨_, q, hd⟩
  have extra : ∀ b, cn.lookup b = none → H b ≠ none → ∀ o, s.heap.get? b = some o → s1.heap.get? b = some o := fun b hc hn o e =>
    stp.keep b o e (fun z => hn (mN b z).1) hc fun z => hn (I.stkFree b z)
  refine ⟨I.ok, stp.os.trans I.os, stp.bare, ⟨fun b o e n hb hx => ?_, fun b o e n hb hx => ?_, I.base.free, fun b o e hx => ?_, I.base.tups, I.base.frzs, I.base.tbls⟩, ?_, fun x b e => ?_, I.free, I.freeC, fun p hp => ?_, fun b u e => ?_, I.len⟩
  · have e1 := I.base.keep b o e n hb hx
    refine stp.keep b o e1 (s0M b o e hx) (cN b (I.base.free b o e n hx)) fun z => ?_
    rcases List.mem_cons.mp (I.stkSub b z) with z | z
    · exact s0L b o e z
    · exact hb z
  · obtain ⟨sl, e1⟩ := I.base.slot b o e n hb hx
    obtain ⟨sl', e2⟩ := any b _ e1 (s0M b o e hx) (cN b (I.base.free b o e n hx))
    exact ⟨sl', e2⟩
  · obtain ⟨o', e1⟩ := I.base.there b o e hx
    cases q : cn.lookup b with
    | none =>
      obtain ⟨sl, e2⟩ := any b o' e1 (s0M b o e hx) q
      exact ⟨_, e2⟩
    | some u => exact clo_exists c q (stp.cn b u q)
  · obtain ⟨m, ⟨o, es, ep, ho, hd, hr⟩, hl⟩ := I.loc
    obtain ⟨sl, e2⟩ := any X.env.locals o ho (fun z => (mN _ z).2.1 rfl) (cN _ I.free)
    refine ⟨m, ⟨_, es, ep, e2, hd, hr⟩, fun i x v e1 e2 e3 => ?_⟩
    obtain ⟨u, r, l⟩ := hl i x v e1 e2 e3
    refine ⟨u, r, ?_⟩
    rcases l with l | ⟨k, b, e, z⟩
    · exact .inl l
    · exact .inr ⟨k, b, e, cellK x b e _ z⟩
  · obtain ⟨v, z⟩ := I.cell x b e
    exact ⟨v, cellK x b e v z⟩
  · have hp' : p ∈ X.pn ++ (pins ++ M) := by
      rcases List.mem_append.mp hp with z | z
      · exact List.mem_append_left _ z
      · exact List.mem_append_right _ (List.mem_append_left _ z)
    obtain ⟨a1, a2, a3, a4, a5⟩ := I.pin p hp'
    refine ⟨stp.keep p.1 p.2 a1 (fun z => (mN p.1 z).2.2.2.1 p hp rfl) (cN p.1 a2) fun z => ?_, a2, a3, a4, a5⟩
    rcases List.mem_cons.mp (I.stkSub p.1 z) with z | z
    · exact a3 z
    · exact a4 z
  · cases q : cn.lookup b with
    | some u' =>
      have e1 := hk b u' q
      rw [e] at e1
      cases e1
      exact clo_ok c hk q (stp.cn b u q)
    | none =>
      refine (I.hok b u e).stay (fun x o hx ex => ?_) (fun _ z => z) fun _ _ z => z
      rcases hx with z | z
      · rw [z] at ex ⊢
        exact extra b q (by rw [e]; exact fun z => by cases z) o ex
      · refine extra x ?_ (by rw [z]; exact fun y => by cases y) o ex
        cases y : cn.lookup x with
        | none => rfl
        | some w =>
          have e2 := hk x w y
          rw [z] at e2
          cases e2
          obtain ⟨C, fs, e3⟩ := c x _ y
          rw [q] at e3; cases e3
/-- a new thing at p is told -/
theorem inv_lay {p : Addr} {o : HO} (I : Inv X pins σ H s) (hn : H p = none) (hy : Yng X p) (hL : p ≠ X.env.locals) (hC : ∀ x c, X.env.cells.lookup x = some c → c ≠ p) (hP : ∀ q ∈ X.pn ++ pins, q.1 ≠ p) (new : ObjOk X.prog X.w (upd H p o) s.heap p o) :
    Inv X pins σ (upd H p o) s := by
  refine ⟨I.ok, I.os, I.bare, ⟨I.base.keep, I.base.slot, fun b ob e n hx => ?_, I.base.there, fun b xs e => ?_, fun b ob u e => ?_, fun b ps e => ?_⟩, I.loc, I.cell, ?_, fun x c e => ?_, fun q hq => ?_, fun b u e => ?_, I.len⟩
  · rw [upd_ne (fun z => hx (by rw [z] at e ⊢; exact hy ob e))]
    exact I.base.free b ob e n hx
  · have y := I.base.tups b xs e
    rw [upd_ne (ne_of_none y hn)]; exact y
  · have y := I.base.frzs b ob u e
    rw [upd_ne (ne_of_none y hn)]; exact y
  · obtain ⟨more, y⟩ := I.base.tbls b ps e
    exact ⟨more, by rw [upd_ne (ne_of_none y hn)]; exact y⟩
  · rw [upd_ne (Ne.symm hL)]; exact I.free
  · rw [upd_ne (hC x c e)]; exact I.freeC x c e
  · obtain ⟨a1, a2, a3⟩ := I.pin q hq
    exact ⟨a1, by rw [upd_ne (hP q hq)]; exact a2, a3⟩
  · by_cases hb : b = p
    · subst hb
      rw [upd_same] at e
      cases e
      exact new
    · rw [upd_ne hb] at e
      exact (I.hok b u e).stay (fun _ _ _ z => z) (fun x z => by rw [upd_ne (ne_of_none z hn)]; exact z) fun x xs z => by rw [upd_ne (ne_of_none z hn)]; exact z
/-- behind a yield: the new tuple is tracked, the generator's things are pinned as they now stand -/
theorem inv_item {p : Addr} {row : List V} (I : Inv X (pins ++ M) σ H s) (stp : Step X.prog X.w X.stack cn M s M' s1) (c : Clo cn) (hk : Knows cn H) (yg : Apt X pins M) (hp : p ∈ adr M ∨ s.heap.get? p = none) (hz : row.length ≤ sizeLine)
    (ht : ∃ its, Vals row its ∧ IsTup s1.heap p its.toArray) (hM : p ∉ adr M') : H p = none ∧ Apt X pins M' ∧ Inv X (pins ++ M') σ (upd H p (.tup row)) s1 := by
  have I1 := inv_turn I stp c hk yg
  have mN : ∀ b, b ∈ adr M → H b = none ∧ b ≠ X.env.locals ∧ Yng X b ∧ (∀ p ∈ X.pn ++ pins, p.1 ≠ b) ∧ ∃ o, s.heap.get? b = some o ∧ ∀ v, o.data ≠ .cell v := fun b hb => by
    obtain ⟨q, hq, rfl⟩ := adr_mem hb
    obtain ⟨a1, a2, a3, _, a5⟩ := I.pin q (List.mem_append_right _ (List.mem_append_right _ hq))
    exact ⟨a2, a3, (yg q hq).1, (yg q hq).2, q.2, a1, a5⟩
  have gone : ∀ b, s.heap.get? b = none → H b = none ∧ b ≠ X.env.locals ∧ Yng X b ∧ (∀ p ∈ X.pn ++ pins, p.1 ≠ b) ∧ ∀ x c, X.env.cells.lookup x = some c → c ≠ b := fun b e => by
    refine ⟨?_, fun z => ?_, fun o e0 => ?_, fun q hq z => ?_, fun x c hc z => ?_⟩
    · cases q : H b with
      | none => rfl
      | some u =>
        exfalso
        have ex : ∃ o, s.heap.get? b = some o := by
          have x := I.hok b u q
          cases u with
          | lst xs => obtain ⟨_, _, _, _, e⟩ := x; exact ⟨_, e⟩
          | tup xs => obtain ⟨_, _, _, o, e, _⟩ := x; exact ⟨o, e⟩
          | dK kvs => obtain ⟨_, _, _, _, o, _, _, e, _⟩ := x; exact ⟨o, e⟩
          | dT kvs => obtain ⟨_, _, _, _, o, _, _, e, _⟩ := x; exact ⟨o, e⟩
          | set S n => obtain ⟨o, _, _, _, e, _⟩ := x; exact ⟨o, e⟩
          | ins C dx fs => obtain ⟨_, _, _, e, _⟩ := x; exact ⟨_, e⟩
          | own y => exact x
          | xd fs => obtain ⟨_, ⟨o, _, _, e, _⟩, _⟩ := x; exact ⟨o, e⟩
          | rng lo hi => obtain ⟨_, _, _, e⟩ := x; exact ⟨_, e⟩
          | frz ob u => obtain ⟨e, _⟩ := x; exact ⟨_, e⟩
          | tbl ps => exact ⟨_, show s.heap.get? b = some _ from x⟩
          | met f y => exact ⟨_, show s.heap.get? b = some _ from x⟩
          | ext φ => obtain ⟨_, e, _⟩ := x; exact e
        obtain ⟨o, e'⟩ := ex
        rw [e] at e'; cases e'
    · obtain ⟨m, ⟨o, _, _, ho, _⟩, _⟩ := I.loc
      rw [z, ho] at e; cases e
    · by_cases hx : b ∈ X.ex
      · exact hx
      · obtain ⟨o', e1⟩ := I.base.there b o e0 hx
        rw [e] at e1; cases e1
    · have hq' : q ∈ X.pn ++ (pins ++ M) := by
        rcases List.mem_append.mp hq with z | z
        · exact List.mem_append_left _ z
        · exact List.mem_append_right _ (List.mem_append_left _ z)
      have a1 := (I.pin q hq').1
      rw [z, e] at a1; cases a1
    · obtain ⟨v, o, ho, _⟩ := I.cell x c hc
      rw [z, e] at ho; cases ho
  have nfs : ∀ b, Yng X b → b ∉ X.fs := fun b hy hf => by
    obtain ⟨_, o, ho, _⟩ := I.ok.funs.mem hf
    exact I.ok.exfs b (hy o ho) hf
  have cellM : ∀ b, b ∈ adr M → ∀ x c, X.env.cells.lookup x = some c → c ≠ b := fun b hb x c hc z => by
    obtain ⟨v, o, ho, hd⟩ := I.cell x c hc
    obtain ⟨_, _, _, _, o', e', nd⟩ := mN b hb
    rw [z, e'] at ho; cases ho
    exact nd v hd
  have one : ∀ b, b ∈ adr M ∨ s.heap.get? b = none → H b = none ∧ b ≠ X.env.locals ∧ Yng X b ∧ (∀ p ∈ X.pn ++ pins, p.1 ≠ b) ∧ ∀ x c, X.env.cells.lookup x = some c → c ≠ b := fun b hb => by
    rcases hb with z | z
    · obtain ⟨a1, a2, a3, a4, _⟩ := mN b z
      exact ⟨a1, a2, a3, a4, cellM b z⟩
    · exact gone b z
  obtain ⟨p1, p2, p3, p4, p5⟩ := one p hp
  obtain ⟨its, ri, hI⟩ := ht
  have I2 : Inv X pins σ (upd H p (.tup row)) s1 := inv_lay I1 p1 p3 p2 p5 p4 ⟨hz, its, ri, hI⟩
  have ap : Apt X pins M' := fun q hq => by
    obtain ⟨_, _, z⟩ := stp.pin q hq
    obtain ⟨_, _, a3, a4, _⟩ := one q.1 z
    exact ⟨a3, a4⟩
  refine ⟨p1, ap, I2.pins_of fun q hq => ?_⟩
  rcases List.mem_append.mp hq with z | z
  · exact I2.pin q (List.mem_append_right _ z)
  · obtain ⟨b1, b2, b3⟩ := stp.pin q z
    obtain ⟨a1, a2, a3, _, _⟩ := one q.1 b3
    refine ⟨b1, ?_, a2, nfs q.1 a3, b2⟩
    rw [upd_ne (fun e => hM (List.mem_map.mpr ⟨q, z, e⟩))]
    exact a1
end
end GnX
namespace GnX
open PySem PySem.Spec PyProof.Rows L2 GenW
/-! ### for over a generator -/
theorem inv_gens {X : Cx} {pins : Pins} {σ : L2.St} {H : Hp} {s : Shared} {G : Array GenState} (I : Inv X pins σ H s) (hG : AllBare G) : Inv X pins σ H { s with gens := G } :=
  ⟨I.ok, I.os, hG, I.base, I.loc, I.cell, I.free, I.freeC, I.pin, I.hok, I.len⟩
theorem inv_gens' {X : Cx} {pins : Pins} {σ : L2.St} {H : Hp} {s : Shared} {G : Array GenState} (I : Inv X pins σ H { s with gens := G }) (hG : AllBare s.gens) : Inv X pins σ H s :=
  ⟨I.ok, I.os, hG, I.base, I.loc, I.cell, I.free, I.freeC, I.pin, I.hok, I.len⟩
/-- the wish of an exception does not lean on sleepers -/
def XeG (X : Cx) : Prop := ∀ e (s : Shared) (G : Array GenState), X.xe e { s with gens := G } → (AllBare G → AllBare s.gens) → X.xe e s
theorem thnB {X : Cx} {α : Type} {t : Sem α} {Q Q' : α → Shared → Prop} {s : Shared} (hx : XeG X) (hb : AllBare s.gens) (h : wpAny (model X.prog X.w) X.A t Q X.xe (lulled s))
    (hQ : ∀ a s' G, Q a { s' with gens := G } → (AllBare G → AllBare s'.gens) → Sleep s s' → Q' a s') : wpAny (model X.prog X.w) X.A t Q' X.xe s :=
  wpAny_mono (wpAny_beside hb h) (fun a s' ⟨G, q, b, sl⟩ => hQ a s' G q b sl) fun e s' ⟨G, q, b, _⟩ => hx e s' G q b
section
variable {X : Cx} {pins : Pins} {cn : Kn} {rows : List (List V)} {W : Nat → L2.St → Hp → Prop}
def cW (X : Cx) (pins : Pins) (rows : List (List V)) (W : Nat → L2.St → Hp → Prop) : Nat → Pins → Shared → Prop := fun j M s => ∃ σ H, Inv X (pins ++ M) σ H s ∧ Apt X pins M ∧ W j σ H
def cY (X : Cx) (pins : Pins) (rows : List (List V)) (W : Nat → L2.St → Hp → Prop) : Nat → Pins → Value → Shared → Prop := fun j M v s => ∃ σ H p row, v = .ref p ∧ rows[j]? = some row ∧ H p = none ∧ Inv X (pins ++ M) σ (upd H p (.tup row)) s ∧ Apt X pins M ∧ W j σ H
def cE (X : Cx) (pins : Pins) (rows : List (List V)) (W : Nat → L2.St → Hp → Prop) : Shared → Prop := fun s => ∃ σ H, Inv X pins σ H s ∧ W rows.length σ H
theorem cons_of (c : Clo cn) (hk : ∀ j σ H, W j σ H → Knows cn H) : Cons X.prog X.w X.base X.stack cn rows (cW X pins rows W) (cY X pins rows W) (cE X pins rows W) where
  need := fun j M s ⟨σ, H, I, ap, w⟩ => ⟨I.bare, I.bk, I.stack, fun b u e => clo_ok c (fun _ _ z => z) e (I.hok b u (hk j σ H w b u e)), fun q hq => (I.pin q (List.mem_append_right _ (List.mem_append_right _ hq))).1⟩
  item := fun j M M' row p s s1 hrow ⟨σ, H, I, ap, w⟩ stp hp hz ht hM => by
    obtain ⟨h1, h2, h3⟩ := inv_item I stp c (hk j σ H w) ap hp hz ht hM
    exact ⟨σ, H, p, row, rfl, hrow, h1, h3, h2, w⟩
  done := fun M s s1 ⟨σ, H, I, ap, w⟩ stp => ⟨σ, H, inv_turn I stp c (hk _ σ H w) ap, w⟩
end
/-- the state ahead of a turn: the generator sleeps (or has not begun), n rows are to come -/
def GAhead (P : Program) (w : World) (A : Around) (N : Nat) (WK : Nat → Pins → Shared → Prop) (CY : Nat → Pins → Value → Shared → Prop) (CE : Shared → Prop) (g n : Nat) (s : Shared) : Prop :=
  ∃ j M, WK j M s ∧ n + j = N ∧ ∃ gs, s.gens[g]? = some gs ∧ ∀ s', WK j M s' → gs.Goes (model P w) A.in1 (RP CE) (YP WK CY N) n (.send .none) s'
/-- a generator has come: it is ahead of its first turn -/
theorem ahead_new {X : Cx} {pins : Pins} {σ : L2.St} {H : Hp} {sc s1 : Shared} {k a g : Nat} {c : Code} {cn : Kn} {rows : List (List V)} {W : Nat → L2.St → Hp → Prop} (I : Inv X pins σ H sc) (hn : GNew X.prog X.w X.base k X.stack cn rows H sc a g c s1) (hr : Room (k + 1) X.A)
    (hk : ∀ j σ H, W j σ H → Knows cn H) (w0 : W 0 σ H) : ∃ go : Obj, (∀ h : Heap, h.get? a = some go → h.IsGen a g) ∧ go.cls = .type "generator" ∧ (∃ vs, go.data = .fields vs) ∧
      GAhead X.prog X.w X.A rows.length (cW X (pins ++ [(a, go)]) rows W) (cY X (pins ++ [(a, go)]) rows W) (cE X (pins ++ [(a, go)]) rows W) g rows.length s1 := by
  obtain ⟨go, nm, qn, ega, hc, hd, hsl⟩ := hn.gen
  obtain ⟨o0, e0, d0⟩ := hn.fr
  refine ⟨go, fun h e => ⟨go, nm, qn, e, hc, hd, hsl⟩, hc, ⟨_, hd⟩, 0, pinsAt [sc.heap.objs.size] s1.heap, ?_, rfl, _, hn.st, fun s' hw => ⟨rfl, hn.go X.A.in1 _ _ _ hr.in1 I.ok.frames (cons_of hn.clo hk) s' hw⟩⟩
  have I1 : Inv X pins σ H s1 := I.call' (ch := []) hn.os (Un.kept hn.kept) (I.hok.kept hn.kept) hn.bare fun b hb => by simp at hb
  have f0 := I.fpOk (b := sc.heap.objs.size) (Nat.le_refl _) (I.hok.fresh (Nat.le_refl _))
  have fa := I.fpOk (b := a) (Nat.le_of_lt hn.lt0) (I.hok.fresh (Nat.le_of_lt hn.lt0))
  have yng : ∀ b, sc.heap.objs.size ≤ b → Yng X b := fun b hb o e => absurd (Nat.lt_of_lt_of_le (Heap.lt_size e) (Nat.le_trans I.sz hb)) (Nat.lt_irrefl _)
  have pM : pinsAt [sc.heap.objs.size] s1.heap = [(sc.heap.objs.size, o0)] := by
    unfold pinsAt
    simp [e0]
  rw [pM]
  refine ⟨σ, H, I1.pins_of fun p hp => ?_, fun q hq => ?_, w0⟩
  · rcases List.mem_append.mp hp with z | z
    · rcases List.mem_append.mp z with z | z
      · exact I1.pin p (List.mem_append_right _ z)
      · obtain rfl : p = (a, go) := List.mem_singleton.mp z
        exact ⟨ega, fa.1, fa.2.1, fa.2.2.1, fun v y => by rw [show (a, go).2.data = _ from hd] at y; cases y⟩
    · obtain rfl : p = (sc.heap.objs.size, o0) := List.mem_singleton.mp z
      exact ⟨e0, f0.1, f0.2.1, f0.2.2.1, d0⟩
  · obtain rfl : q = (sc.heap.objs.size, o0) := List.mem_singleton.mp hq
    refine ⟨yng _ (Nat.le_refl _), fun p hp => ?_⟩
    rcases List.mem_append.mp hp with z | z
    · exact f0.2.2.2.2.2 p (List.mem_append_left _ z)
    · rcases List.mem_append.mp z with z | z
      · exact f0.2.2.2.2.2 p (List.mem_append_right _ z)
      · obtain rfl : p = (a, go) := List.mem_singleton.mp z
        exact Nat.ne_of_gt hn.lt0
/-- a turn of it -/
theorem ahead_next {X : Cx} {pins : Pins} {a g n : Nat} {go : Obj} {rows : List (List V)} {W : Nat → L2.St → Hp → Prop} {s : Shared} {E : Value → Shared → Prop} {Q : Option Value → Shared → Prop} (hc : X.calm = true) (hr : X.A.depth < recursionLimit) (isg : ∀ h : Heap, h.get? a = some go → h.IsGen a g) (ma : (a, go) ∈ pins)
    (h : GAhead X.prog X.w X.A rows.length (cW X pins rows W) (cY X pins rows W) (cE X pins rows W) g n s)
    (none' : ∀ σ H s1, Inv X pins σ H s1 → W rows.length σ H → Q none s1)
    (some' : ∀ j M σ H p row s1 k l c q fs, rows[j]? = some row → H p = none → Inv X (pins ++ M) σ (upd H p (.tup row)) s1 → Apt X pins M → W j σ H → s1.gens[g]? = some (.suspended k l c q fs false) →
      (∀ s2, s2.gens[g]? = some (.suspended k l c q fs false) → cW X pins rows W (j + 1) M s2 → ∃ m, m < n ∧ GAhead X.prog X.w X.A rows.length (cW X pins rows W) (cY X pins rows W) (cE X pins rows W) g m s2) → Q (some (.ref p)) s1) :
    wpAny (model X.prog X.w) X.A (pyNext (.ref a)) Q E s := by
  obtain ⟨j, M, ⟨σ, H, I, ap, w⟩, hn, gs, at0, go1⟩ := h
  have hgl : g < s.gens.size := (Array.getElem?_eq_some_iff.mp at0).1
  have ega : s.heap.get? a = some go := (I.pin (a, go) (List.mem_append_right _ (List.mem_append_left _ ma))).1
  have run1 : AllBare (s.setGen g .running).gens := allBare_setGen I.bare rfl
  refine wpAny_gsz (n := g + 1) hgl (next_sl (I.ok.hd hc) I.nolimit hr (isg _ ega) at0 (go1 _ ⟨σ, H, inv_gens I run1, ap, w⟩) (fun v s1 k' l' c' p' fs' hv => ?_) fun s1 he h' kp => ?_)
  · intro hsz
    obtain ⟨M', j', hj, ⟨σ', H', p, row, rfl, hrow, hpn, I', ap', w'⟩, hkap⟩ := hv
    have hs1 : (s1.setGen g (.suspended k' l' c' p' fs' false)).gens[g]? = some (.suspended k' l' c' p' fs' false) := setGen_at (by
      have q : (s1.setGen g (.suspended k' l' c' p' fs' false)).gens.size = s1.gens.size := setGen_size _ _ _
      omega)
    refine some' j' M' σ' H' p row _ k' l' c' p' fs' hrow hpn (inv_gens I' (allBare_setGen I'.bare rfl)) ap' w' hs1 fun s2 h2 hw => ?_
    cases n with
    | zero => exact (hkap s2 hw).elim
    | succ m => exact ⟨m, Nat.lt_succ_self _, j' + 1, M', hw, by omega, _, h2, fun s' hw' => hkap s' hw'⟩
  · intro _
    obtain ⟨σ', H', I', w'⟩ := he
    have I2 : Inv X pins σ' H' (s1.setGen g .finished) := inv_gens I' (allBare_setGen I'.bare rfl)
    exact none' σ' H' _ (I2.kept (t' := s1.toks) kp) w'
def tForGn (tg : TGn2) (g : L2.TG) (tb : TS) : TS := fun D σ H => tg σ H fun cn rows H1 => ∃ W : Nat → L2.St → Hp → Prop, W 0 σ H1 ∧ (∀ j σ H, W j σ H → Knows cn H) ∧
  (∀ j row σ H, rows[j]? = some row → W j σ H → ∀ p, H p = none → g (.ref p) σ (upd H p (.tup row)) fun σ2 H2 => tb { D with nx := W (j + 1), ct := W (j + 1), bk := D.nx } σ2 H2) ∧ ∀ σ H, W rows.length σ H → D.nx σ H
theorem ps_forGn {X : Cx} {k : Nat} {tgt iter : Expr} {body : List Stmt} {tg : TGn2} {g : L2.TG} {tb : TS} {pos : Pos} (hp : PassesOwn (model X.prog X.w) X.A X.env X.xe) (hx : XeG X) (hc : X.calm = true) (hr : Room (k + 1) X.A) (hi : PGn X k iter tg) (hg : PG X tgt g) (hb : PSs X body tb)
    (hs : ∀ x, foldedSetIterable iter X.env x = pure x := by intro _; rfl) : PS X (.For tgt iter body [] pos) (tForGn tg g tb) := by
  refine ⟨fun pins s σ H D I h => ?_⟩
  refine wpAny_For (thn (hi.run pins s σ H _ I h) fun v s1 h1 => ?_) hs
  obtain ⟨cn, rows, a, gn, c, H1, sc, rfl, I1, hn, W, w0, hk, step, fin⟩ := h1
  obtain ⟨go, isg, gc, ⟨vs, gd⟩, ah⟩ := ahead_new I1 hn hr hk w0
  have ega1 : s1.heap.IsGen a gn := hn.gen
  refine wpAny_pyIter_gen ega1 ?_
  refine codeAny_forLoop_any (fun n s' => GAhead X.prog X.w X.A rows.length (cW X (pins ++ [(a, go)]) rows W) (cY X (pins ++ [(a, go)]) rows W) (cE X (pins ++ [(a, go)]) rows W) gn n s') ?_ rows.length ah
  intro n s3 ah3
  have ma : (a, go) ∈ pins ++ [(a, go)] := List.mem_append_right _ (List.mem_singleton.mpr rfl)
  refine wpAny_passesOwn hp (ahead_next (E := X.xe) hc (by have := hr.dp; omega) isg ma ah3 (fun σ' H' s4 I4 w4 => ?_) fun j M σ' H' p row s4 k' l' c' q' fs' hrow hpn I4 ap w4 hg4 cont => ?_)
  · exact wpAny_execs_nil ⟨σ', H', I4.unpinned, fin σ' H' w4⟩
  · have ega : s4.heap.get? a = some go := (I4.pin (a, go) (List.mem_append_right _ (List.mem_append_left _ ma))).1
    refine go_of ega gc gd (by decide) ?_
    refine wpAny_passesOwn hp (thnB hx I4.bare (hg.run _ (lulled s4) σ' (upd H' p (.tup row)) (.ref p) (.ref p) _ (inv_gens I4 (lulled_bare I4.bare)) rfl (step j row σ' H' hrow w4 p hpn)) fun _ s5 G ⟨σ5, H5, I5, q5⟩ hG sl5 => ?_)
    have I5' := inv_gens' I5 (hG I5.bare)
    refine wpAny_passesOwn hp (thnB hx I5'.bare (hb.run _ (lulled s5) σ5 H5 _ (inv_gens I5' (lulled_bare I5'.bare)) q5) fun f s6 G q6 hG6 sl6 => ?_)
    have hg6 := sl6 gn _ _ _ _ _ _ (sl5 gn _ _ _ _ _ _ hg4)
    have again : ∀ {σ7 : L2.St} {H7 : Hp}, Inv X ((pins ++ [(a, go)]) ++ M) σ7 H7 { s6 with gens := G } → W (j + 1) σ7 H7 → ∃ m, m < n ∧ GAhead X.prog X.w X.A rows.length (cW X (pins ++ [(a, go)]) rows W) (cY X (pins ++ [(a, go)]) rows W) (cE X (pins ++ [(a, go)]) rows W) gn m s6 := fun {σ7 H7} I7 w7 =>
      cont s6 hg6 ⟨σ7, H7, inv_gens' I7 (hG6 I7.bare), ap, w7⟩
    cases f with
    | next => obtain ⟨σ7, H7, I7, n7⟩ := q6; exact again I7 n7
    | cont => obtain ⟨σ7, H7, I7, n7⟩ := q6; exact again I7 n7
    | brk => obtain ⟨σ7, H7, I7, q7⟩ := q6; exact ⟨σ7, H7, (inv_gens' I7 (hG6 I7.bare)).unpinned.unpinned, q7⟩
    | ret v => obtain ⟨x7, σ7, H7, I7, r7, q7⟩ := q6; exact ⟨x7, σ7, H7, (inv_gens' I7 (hG6 I7.bare)).unpinned.unpinned, r7, q7⟩
end GnX
namespace GnX
open PySem PySem.Spec PyProof.Rows L2 GenW
/-! ### a list comprehension over a generator -/
def tLcGn (tg : TGn2) (g : L2.TG) (te : TE) (vs : List Nat) : TE := fun σ H Q => tg σ H fun cn rows H1 => ∀ D, H1 D = none → ∃ Pv : Nat → Hp → Prop, Pv 0 (upd H1 D (.lst [])) ∧ (∀ j H, Pv j H → Knows cn H) ∧
  (∀ j row H, rows[j]? = some row → Pv j H → ∀ p, H p = none → g (.ref p) (wipe σ vs) (upd H p (.tup row)) fun σ2 H2 => wipe σ2 vs = wipe σ vs ∧ te σ2 H2 fun y H4 => ∃ acc, H4 D = some (.lst acc) ∧ acc.length < sizeLine ∧ Pv (j + 1) (upd H4 D (.lst (acc ++ [y])))) ∧
  ∀ H, Pv rows.length H → Q (.ref D) H
section
variable {X : Cx}
theorem lcG_core {use : Option (Value → Sem Unit)} {k : Nat} {pn : Pins} {t : Shared} {σ : L2.St} {H : Hp} {Q : VK} {el tgt itr : Expr} {sc : Scope} {own : List (Str × Nat)} {po po' : Pos} {tg : TGn2} {g : L2.TG} {te : TE} {Qf : Value → Shared → Prop} (calm : X.calm = true) (nodup : X.N.Nodup) (hr : Room (k + 1) X.A) (J : Inv X pn σ H t) (pi : PGn X k itr tg) (ok : BlkOk X.N X.env.scope sc own)
    (pg : ∀ (t : Shared) (H : Hp) (C : Addr) (cl : List (Str × Addr)) (fp : List Addr), PG (X.blk t H sc (compEnvC sc cl C X.env) fp) tgt g)
    (pe : ∀ (t : Shared) (H : Hp) (C : Addr) (cl : List (Str × Addr)) (fp : List Addr), PE (X.blk t H sc (compEnvC sc cl C X.env) fp) el te)
    (fo : ∀ x, foldedSetIterable itr X.env x = pure x) (rd : tLcGn tg g te (own.map (·.2)) σ H Q)
    (fin : ∀ D C t' m H', Inv X pn σ H' t' → Q (.ref D) H' → t'.heap.Ns C m → FpOk X pn H' C → compPost (model X.prog X.w) X.A X.xe use Qf (.ref D) C (.ok .next) t') :
    wpAny (model X.prog X.w) X.A (comprehension (.ListComp el [⟨tgt, itr, [], 0⟩] sc po) sc X.env po' (newList []) false (eval itr X.env) use) Qf X.xe t := by
  have hfree : ∀ y ∈ sc.names, y.2 = .free → ∃ c, X.env.cells.lookup y.1 = some c := fun y hy e => by
    rcases ok.free y hy e with k | k
    · exact J.ok.has _ (.inl k)
    · exact J.ok.has _ (.inr k)
  refine wpAny_comprehension_free (use := use) rfl fo (closure_ok hfree) ok.kind (fun y hy e => by rw [ok.uniq y hy, e]) (thn (pi.run pn t σ H _ J rd) fun xv t1 hx => ?_)
  obtain ⟨cn, rows, a, gn, c, H1, sc0, rfl, Jc, hn, q⟩ := hx
  refine wpAny_pyIter_gen hn.gen ?_
  refine wpAny_newObj_type (newEnv_comp ?_) (Nat.zero_le _)
  have J2 : Inv X pn σ H1 t1 := Jc.call' (ch := []) hn.os (Un.kept hn.kept) (Jc.hok.kept hn.kept) hn.bare fun b hb => by simp at hb
  obtain ⟨go, nm, qn, ega, gc, gd, hsl⟩ := hn.gen
  obtain ⟨o0, e0, d0⟩ := hn.fr
  have isg : ∀ h : Heap, h.get? a = some go → h.IsGen a gn := fun h e => ⟨go, nm, qn, e, gc, gd, hsl⟩
  have f0 := Jc.fpOk (b := sc0.heap.objs.size) (Nat.le_refl _) (Jc.hok.fresh (Nat.le_refl _))
  have fa := Jc.fpOk (b := a) (Nat.le_of_lt hn.lt0) (Jc.hok.fresh (Nat.le_of_lt hn.lt0))
  generalize hD : t1.heap.objs.size = D
  have Dn2 : H1 D = none := J2.hok.fresh (Nat.le_of_eq hD)
  obtain ⟨Pv, w0, hk, step, done⟩ := q D Dn2
  generalize ht3 : ({ t1 with heap := t1.heap.push { cls := .type "list", data := .seq ([] : List Value).toArray } } : Shared) = t3
  have hp3 : t3.heap = t1.heap.push { cls := .type "list", data := .seq ([] : List Value).toArray } := by rw [← ht3]
  have k23 : ∀ b u, t1.heap.get? b = some u → t3.heap.get? b = some u := fun b u e => by rw [hp3]; exact Heap.get?_push_of_some _ e
  have J3 : Inv X pn σ (upd H1 D (.lst [])) t3 := by
    rw [← ht3]
    refine J2.laid (t' := t1.toks) (fun b u e => Heap.get?_push_of_some _ e) (Nat.le_of_eq hD) ⟨Nat.zero_le _, [], 0, .nil, ?_⟩
    rw [← hD]; exact Heap.get?_push_size _ rfl
  have sz3 : t3.heap.objs.size = t1.heap.objs.size + 1 := by rw [hp3, Heap.size_push]
  have lt1 : ∀ b ∈ [sc0.heap.objs.size, a], b < t1.heap.objs.size := fun b hb => by
    rcases List.mem_cons.mp hb with z | z
    · rw [z]; exact Heap.lt_size e0
    · rw [List.mem_singleton.mp z]; exact hn.lta
  have fpA : ∀ b ∈ [sc0.heap.objs.size, a], FpOk X pn H1 b := fun b hb => by
    rcases List.mem_cons.mp hb with z | z
    · rw [z]; exact f0
    · rw [List.mem_singleton.mp z]; exact fa
  have fp3 : ∀ b ∈ [sc0.heap.objs.size, a], FpOk X pn (upd H1 D (.lst [])) b ∧ b < t3.heap.objs.size := fun b hb => by
    have z := lt1 b hb
    have nD : b ≠ D := by rw [← hD]; exact Nat.ne_of_lt z
    exact ⟨⟨(upd_ne nD).trans (fpA b hb).1, (fpA b hb).2⟩, by rw [sz3]; exact Nat.lt_succ_of_lt z⟩
  have J4 := block_start J3 ok nodup fp3
  generalize hcl : cellsFrom (t3.heap.objs.size + 1) sc.names (cloFrom X.env.cells sc.names []) = cls at J4 ⊢
  have k34 : ∀ b u, t3.heap.get? b = some u → (pushCells (t3.heap.push { cls := .type "dict", data := .dict #[] }) sc.names).get? b = some u := fun b u e => pushCells_keeps _ _ _ _ (Heap.get?_push_of_some _ e)
  show codeAny _ _ (.compStart (.ListComp el [⟨tgt, itr, [], 0⟩] sc po) 0 (.ref a) (.ref D) (compEnvC sc cls t3.heap.objs.size X.env)) (compPost (model X.prog X.w) X.A X.xe use Qf (.ref D) t3.heap.objs.size) { t3 with heap := pushCells (t3.heap.push { cls := .type "dict", data := .dict #[] }) sc.names }
  have pg' := pg t3 (upd H1 D (.lst [])) t3.heap.objs.size cls [sc0.heap.objs.size, a]
  have pe' := pe t3 (upd H1 D (.lst [])) t3.heap.objs.size cls [sc0.heap.objs.size, a]
  generalize hce : compEnvC sc cls t3.heap.objs.size X.env = ce at J4 pg' pe' ⊢
  have cL : ce.locals = t3.heap.objs.size := by subst hce; rfl
  generalize hz3 : upd H1 D (.lst []) = H3 at J3 J4 pg' pe' w0 fp3
  generalize ht4 : ({ t3 with heap := pushCells (t3.heap.push { cls := .type "dict", data := .dict #[] }) sc.names } : Shared) = t4 at J4 ⊢
  have h4 : ∀ b u, t1.heap.get? b = some u → t4.heap.get? b = some u := fun b u e => by rw [← ht4]; exact k34 b u (k23 b u e)
  have g4 : t4.gens = t1.gens := by rw [← ht4, ← ht3]
  -- the block's state with the generator pinned
  have blkF : ∀ b ∈ [sc0.heap.objs.size, a], H3 b = none ∧ b ≠ (X.blk t3 H3 sc ce [sc0.heap.objs.size, a]).env.locals ∧ b ∉ (X.blk t3 H3 sc ce [sc0.heap.objs.size, a]).fs := fun b hb => by
    refine ⟨(fp3 b hb).1.1, ?_, J4.ok.exfs b hb⟩
    show b ≠ ce.locals
    rw [cL]; exact Nat.ne_of_lt (fp3 b hb).2
  have J4p : Inv (X.blk t3 H3 sc ce [sc0.heap.objs.size, a]) ([(a, go)] ++ [(sc0.heap.objs.size, o0)]) (wipe σ (own.map (·.2))) H3 t4 := by
    refine J4.pins_of fun p hp => ?_
    rcases List.mem_append.mp hp with z | z
    · obtain rfl : p = (a, go) := List.mem_singleton.mp z
      obtain ⟨b1, b2, b3⟩ := blkF a (by simp)
      exact ⟨h4 _ _ ega, b1, b2, b3, fun v y => by rw [show (a, go).2.data = _ from gd] at y; cases y⟩
    · obtain rfl : p = (sc0.heap.objs.size, o0) := List.mem_singleton.mp z
      obtain ⟨b1, b2, b3⟩ := blkF _ (List.mem_cons_self)
      exact ⟨h4 _ _ e0, b1, b2, b3, d0⟩
  have ma : (a, go) ∈ [(a, go)] := List.mem_singleton.mpr rfl
  have pM : pinsAt [sc0.heap.objs.size] t1.heap = [(sc0.heap.objs.size, o0)] := by
    unfold pinsAt
    simp [e0]
  have kW : ∀ j σ' H', (σ' = wipe σ (own.map (·.2)) ∧ Pv j H') → Knows cn H' := fun j σ' H' z => hk j H' z.2
  have ah : GAhead X.prog X.w X.A rows.length (cW (X.blk t3 H3 sc ce [sc0.heap.objs.size, a]) [(a, go)] rows fun j σ' H' => σ' = wipe σ (own.map (·.2)) ∧ Pv j H') (cY (X.blk t3 H3 sc ce [sc0.heap.objs.size, a]) [(a, go)] rows fun j σ' H' => σ' = wipe σ (own.map (·.2)) ∧ Pv j H')
      (cE (X.blk t3 H3 sc ce [sc0.heap.objs.size, a]) [(a, go)] rows fun j σ' H' => σ' = wipe σ (own.map (·.2)) ∧ Pv j H') gn rows.length t4 := by
    refine ⟨0, pinsAt [sc0.heap.objs.size] t1.heap, ?_, rfl, .fresh c, by rw [g4]; exact hn.st, fun s' hw => ⟨rfl, hn.go X.A.in1 _ _ _ hr.in1 J.ok.frames (cons_of (X := X.blk t3 H3 sc ce [sc0.heap.objs.size, a]) hn.clo kW) s' hw⟩⟩
    rw [pM]
    refine ⟨_, H3, J4p, fun q hq => ?_, rfl, w0⟩
    obtain rfl : q = (sc0.heap.objs.size, o0) := List.mem_singleton.mp hq
    refine ⟨fun o _ => List.mem_cons_self, fun p hp => ?_⟩
    obtain rfl : p = (a, go) := by simpa using hp
    exact Nat.ne_of_gt hn.lt0
  have hxB : XeG (X.blk t3 H3 sc ce [sc0.heap.objs.size, a]) := fun _ _ _ z _ => z
  have loop : codeAny (model X.prog X.w) X.A (.compLoop (.ListComp el [⟨tgt, itr, [], 0⟩] sc po) 0 (.ref a) (.ref D) ce) (compPost (model X.prog X.w) X.A X.xe use Qf (.ref D) t3.heap.objs.size) t4 := by
    refine compLoop_any (fun n t' => GAhead X.prog X.w X.A rows.length (cW (X.blk t3 H3 sc ce [sc0.heap.objs.size, a]) [(a, go)] rows fun j σ' H' => σ' = wipe σ (own.map (·.2)) ∧ Pv j H') (cY (X.blk t3 H3 sc ce [sc0.heap.objs.size, a]) [(a, go)] rows fun j σ' H' => σ' = wipe σ (own.map (·.2)) ∧ Pv j H')
      (cE (X.blk t3 H3 sc ce [sc0.heap.objs.size, a]) [(a, go)] rows fun j σ' H' => σ' = wipe σ (own.map (·.2)) ∧ Pv j H') gn n t') ?_ rows.length ah
    intro n t5 ah5
    refine ahead_next (X := X.blk t3 H3 sc ce [sc0.heap.objs.size, a]) calm (by have := hr.dp; show X.A.depth < _; omega) isg ma ah5 (fun σ' H6 t6 K6 w6 => ?_) fun j M σ' H6 p row t6 k' l' c' q' fs' hrow hpn K6 ap w6 hg6 cont => ?_
    · obtain ⟨rfl, w6⟩ := w6
      have J7 : Inv X pn σ H6 t6 := J3.call' (ch := [sc0.heap.objs.size, a]) K6.os K6.base K6.hok K6.bare
        fun b hb => ⟨(fp3 b hb).1.2.2.2.1, (fp3 b hb).1.2.1, (fp3 b hb).1.2.2.2.2.1, (fp3 b hb).1.2.2.2.2.2⟩
      have nC : H6 t3.heap.objs.size = none := by have z : H6 ce.locals = none := K6.free; rw [cL] at z; exact z
      obtain ⟨mm, hN, _⟩ := K6.loc
      have hN : t6.heap.Ns ce.locals mm := hN
      rw [cL] at hN
      exact fin D t3.heap.objs.size t6 mm H6 J7 (done H6 w6) hN (J3.fpOk (Nat.le_refl _) nC)
    · obtain ⟨rfl, w6⟩ := w6
      have ega6 : t6.heap.get? a = some go := (K6.pin (a, go) (List.mem_append_right _ (List.mem_append_left _ ma))).1
      refine go_of ega6 gc gd (by decide) ?_
      refine thnF (thnB hxB K6.bare (pg'.run _ (lulled t6) (wipe σ (own.map (·.2))) (upd H6 p (.tup row)) (.ref p) (.ref p) _ (inv_gens K6 (lulled_bare K6.bare)) rfl (step j row H6 hrow w6 p hpn)) fun _ t7 G ⟨σ7, H7, K7, hw7, q7⟩ hG sl7 => ?_) fun _ _ z => z
      have K7' := inv_gens' K7 (hG K7.bare)
      refine wpAny_tests_nil ?_
      rw [if_pos rfl]
      refine thnF (thnB hxB K7'.bare (pe'.run _ (lulled t7) σ7 H7 _ (inv_gens K7' (lulled_bare K7'.bare)) q7) fun y t8 G8 ⟨yv, H8, K8, r8, acc, hD8, hz8, nx⟩ hG8 sl8 => ?_) fun _ _ z => z
      have K8' := inv_gens' K8 (hG8 K8.bare)
      have hg8 := sl8 gn _ _ _ _ _ _ (sl7 gn _ _ _ _ _ _ hg6)
      refine thnF (thnB hxB K8'.bare (app_ok (X := X.blk t3 H3 sc ce [sc0.heap.objs.size, a]) (E := fun _ _ => False) (Q := fun _ s' => Inv (X.blk t3 H3 sc ce [sc0.heap.objs.size, a]) ([(a, go)] ++ M) σ7 (upd H8 D (.lst (acc ++ [yv]))) s') (inv_gens K8' (lulled_bare K8'.bare)) hD8 hz8 r8 fun t9 K9 => K9) fun _ t9 G9 K9 hG9 sl9 => ?_) fun _ _ z => z
      have K9' := inv_gens' K9 (hG9 K9.bare)
      have hl : (wipe σ (own.map (·.2))).length = σ7.length := by rw [← hw7]; exact wipe_length _ _
      exact cont t9 (sl9 gn _ _ _ _ _ _ hg8) ⟨_, _, K9'.weak hl (fun j v e => by rw [← hw7] at e; exact (wipe_some e).1), ap, rfl, nx⟩
  exact codeAny_compStart_list loop (wpAny_pyIter_gen (isg _ (h4 _ _ ega)) loop)
theorem pe_lcGn {k : Nat} {el tgt itr : Expr} {sc : Scope} {own : List (Str × Nat)} {po : Pos} {tg : TGn2} {g : L2.TG} {te : TE} (calm : X.calm = true) (nodup : X.N.Nodup) (hr : Room (k + 1) X.A) (pi : PGn X k itr tg) (ok : BlkOk X.N X.env.scope sc own)
    (pg : ∀ (t : Shared) (H : Hp) (C : Addr) (cl : List (Str × Addr)) (fp : List Addr), PG (X.blk t H sc (compEnvC sc cl C X.env) fp) tgt g)
    (pe : ∀ (t : Shared) (H : Hp) (C : Addr) (cl : List (Str × Addr)) (fp : List Addr), PE (X.blk t H sc (compEnvC sc cl C X.env) fp) el te)
    (fo : ∀ x, foldedSetIterable itr X.env x = pure x := by intro _; rfl) : PE X (.ListComp el [⟨tgt, itr, [], 0⟩] sc po) (tLcGn tg g te (own.map (·.2))) := by
  refine ⟨fun pn t σ H Q J rd => ?_⟩
  rw [eval_ListComp]
  refine lcG_core calm nodup hr J pi ok pg pe fo rd fun D C t' m H' K q hn ⟨f0, f1, f2, f3, f4, f5⟩ => ⟨m, hn, fun h'' sb => ?_⟩
  exact ⟨.ref D, H', K.turned (t' := t'.toks) (fun b u hb e => (sb.2 b hb).trans e) f0 f1 f3 f4 f5, rfl, q⟩
/-- ys = [..] over a generator, on one line, ys a local -/
theorem ps_setLcGn {k i : Nat} {nm : Str} {np : Pos} {el tgt itr : Expr} {sc : Scope} {own : List (Str × Nat)} {po sp : Pos} {tg : TGn2} {g : L2.TG} {te : TE} (calm : X.calm = true) (nodup : X.N.Nodup) (hnm : X.N[i]? = some nm) (loc : X.env.scope.names.lookup nm = some .local)
    (hsw : swapsWith (.ListComp el [⟨tgt, itr, [], 0⟩] sc po) (some (.Name nm np)) sp.line X.env = pure true) (hr : Room (k + 1) X.A) (pi : PGn X k itr tg) (ok : BlkOk X.N X.env.scope sc own)
    (pg : ∀ (t : Shared) (H : Hp) (C : Addr) (cl : List (Str × Addr)) (fp : List Addr), PG (X.blk t H sc (compEnvC sc cl C X.env) fp) tgt g)
    (pe : ∀ (t : Shared) (H : Hp) (C : Addr) (cl : List (Str × Addr)) (fp : List Addr), PE (X.blk t H sc (compEnvC sc cl C X.env) fp) el te)
    (fo : ∀ x, foldedSetIterable itr X.env x = pure x := by intro _; rfl) : PS X (.Assign [.Name nm np] (.ListComp el [⟨tgt, itr, [], 0⟩] sc po) sp) (tAsg (tLcGn tg g te (own.map (·.2))) (gName i)) := by
  refine ⟨fun pn t σ H Dn J rd => ?_⟩
  rw [exec_Assign_Name_used _ _ _ _ hsw]
  refine wpAny_bind (wpAny_standAt (wpAny_bind ?_))
  show wpAny _ X.A (do let _ ← comprehension (.ListComp el [⟨tgt, itr, [], 0⟩] sc po) sc X.env (firstIterPos [⟨tgt, itr, [], 0⟩] po) (newList []) false (eval itr X.env) (some (assign (.Name nm np) X.env))) _ _ t
  have rd : tLcGn tg g te (own.map (·.2)) σ H (fun v G => gName i v σ G Dn.nx) := rd
  refine wpAny_bind (thn (lcG_core (Qf := fun _ u => SP X pn Dn .next u) calm nodup hr J pi ok pg pe fo rd fun L C u m G K q hn fpC => ?_) fun _ u z => wpAny_pure (wpAny_pure z))
  show wpAny _ _ (assign (.Name nm np) X.env (.ref L)) _ _ _
  refine wpAny_assign_Name (store_ok2 (v := V.ref L) K nodup hnm (.inl loc) rfl (fun u2 K2 ⟨b, sb, hb⟩ => ?_) (.inr loc))
  obtain ⟨f0, f1, f2, f3, f4, f5⟩ := fpC
  have ne : C ≠ b := by
    rcases hb with z | z
    · rw [z]; exact f1
    · exact fun e => f4 nm b z e.symm
  exact ⟨m, hn.sameBut sb ne, fun h3 sb3 => ⟨_, G, K2.turned (t' := u2.toks) (fun b o hb e => (sb3.2 b hb).trans e) f0 f1 f3 f4 f5, q⟩⟩
end
end GnX
namespace Sw
open PySem PySem.Spec PyProof.Rows L2 Evl LamX NdefX
/-! ### an own class whose __init__ begins with super().__init__(..) of an own class -/
structure SupO (P : Program) (K : PySem.W.Frag) (qual : Str) (st : Stmt) (f : Addr) (fd : FuncData) (cda cc D f2 : Addr) : Prop where
  ex : ∃ (oc : Value) (od : Option Addr) (dV kV doc pm : Value) (an : Option Addr) (ct : Value) (osl : Array (Option Value)), fd = PySem.W.ksFn "__init__" qual (L2.defArgs st) (L2.defBody st) (L2.defScope st) dV kV doc pm an (.ref cda) ct cc ∧ K.lookup f = some ⟨oc, od, .func fd, osl⟩ ∧ PySem.W.codeIn K (.ref cda) qual = true
  code : ∃ (oc : Value) (od : Option Addr) (vs : Array Value) (sl : Array (Option Value)) (file : Str) (tf : Tok), K.lookup cda = some ⟨oc, od, .fields vs, sl⟩ ∧ vs[2]? = some (.str file tf) ∧ ((P.main.file : Str) == file) = true
  cell : ∃ (oc : Value) (od : Option Addr) (sl : Array (Option Value)), K.lookup cc = some ⟨oc, od, .cell (some (.ref D)), sl⟩
  any : PySem.W.nsIn K cStatics "thirdparty.any" = some none
  sup : PySem.W.ks_superIn K D D "__init__" = some (some (.ref f2))
  ty : PySem.W.typeIn K (.ref f2) = some (.type "function")
  fi : PySem.W.fnIn K f2 = true
  sub : PySem.W.mroIn K D (.ref D) = some true
  isc : PySem.W.isClsIn K D = true
  top : (P.main.scope.names.lookup ("super" : Str)).isSome = false
theorem sup_own {CX : CXT} {P : Program} {w : World} {K : PySem.W.Frag} {mg : Str → Option Value} {base : Heap} {k : Nat} {f f2 cda cc D : Addr} {fd : FuncData} {qual : Str} {st : Stmt} {N ps : List Str} {sp sp2 : Sp} {ar : Arg} {x : Expr} {rest : List Stmt} {p0 p1 p2 pos1 pos2 : Pos} {pl : Sem Bool}
    (F : SupO P K qual st f fd cda cc D f2) (F2 : FnR P w K mg base CX0 k f2 sp2) (hst : L2.defBody st = .Expr (.Call (.Attribute (.Call (.Name "super" p0) [] [] p1) "__init__" p2) [x] [] pos1) pos2 :: rest) (S : NScope N ps ["__class__"] (L2.defScope st))
    (hself : ((L2.defArgs st).posonlyargs ++ (L2.defArgs st).args).head? = some ar) (hN0 : N[0]? = some ar.arg) (hka : (L2.defScope st).names.lookup ar.arg = some .local) (hks : (L2.defScope st).names.lookup ("super" : Str) = some .globalImplicit) (hmg : mg "super" = none)
    (hpl : ∀ env : Env, eval (.Call (.Attribute (.Call (.Name "super" p0) [] [] p1) "__init__" p2) [x] [] pos1) env = (do
      let ov ← attributeBase (.Call (.Name "super" p0) [] [] p1) "__init__" env (eval (.Call (.Name "super" p0) [] [] p1) env)
      standAt p2.atName
      let (f, first) ← holding [ov] (getMethod ov "__init__" pl)
      callWith pos1 f first (backTo pos1 (starEach [x] env)) [])) (hsw : ∀ (l : Nat) (env : Env), swapsWith (.Call (.Attribute (.Call (.Name "super" p0) [] [] p1) "__init__" p2) [x] [] pos1) none l env = pure false) (hsx : ∀ env : Env, starEach [x] env = (false, eval x env) :: starEach [] env)
    (len : ∀ vs H Q E, sp vs H Q E → vs.length = ps.length)
    (hbody : ∀ (A : Around) (outer : List Env) (s : Shared) (H : Hp) (vs : List V) (Q : VK) (E : XK), Room k (A.deeper (envF ⟨"__init__", qual, L2.defArgs st, L2.defBody st, L2.defScope st, [("__class__", cc)], cda⟩ f s.heap.objs.size)) → sp vs H Q E →
      ∃ (ta : TA) (tr : TS) (a dx : Addr) (fs : List (Str × V)) (ws : List V), PA (ncx CX P w K mg base N ⟨"__init__", qual, L2.defArgs st, L2.defBody st, L2.defScope st, [("__class__", cc)], cda⟩ f A outer s H E) [x] ta ∧ PSs (ncx CX P w K mg base N ⟨"__init__", qual, L2.defArgs st, L2.defBody st, L2.defScope st, [("__class__", cc)], cda⟩ f A outer s H E) rest tr ∧
        vs = .ref a :: ws ∧ H a = some (.ins D dx fs) ∧ ta (startF N vs [none]) H (fun us H1 => sp2 (.ref a :: us) H1 (fun _ H2 => tr { nx := fun _ H' => Q .non H', rt := Q } (startF N vs [none]) H2) E0)) :
    FnOk P w K mg base CX (k + 1) f fd ps sp := by
  obtain ⟨oc, od, dV, kV, doc, pm, an, ct, osl, rfl, lk, hcd⟩ := F.ex
  obtain ⟨oc1, od1, cvs, sl1, file, tf, hcode, hvs, hfile⟩ := F.code
  obtain ⟨oc2, od2, sl2, hcell⟩ := F.cell
  obtain ⟨cdD, hcl⟩ := Option.isSome_iff_exists.mp (show (PySem.W.clsIn K D).isSome = true from F.isc)
  obtain ⟨oD, lD, dD⟩ : ∃ oD, K.lookup D = some oD ∧ oD.data = .cls cdD := by
    have z := hcl
    unfold PySem.W.clsIn at z
    split at z
    · rename_i c d cd' sl ho
      cases z
      exact ⟨_, ho, rfl⟩
    · cases z
  refine ⟨len, fun A outer s H args us vs Q E hr e0 hb r hsp => ?_⟩
  have hl := len _ _ _ _ hsp
  have KX : K.In s.heap := e0.mod.kin.keeps fun b o e => (e0.bs b o e).1
  have lim : s.heap.NoLimit := e0.mod.nolimit.keeps fun b o e => (e0.bs b o e).1
  have kc : (L2.defScope st).names.lookup ("__class__" : Str) = some .free := S.frk _ (by simp)
  refine ks_codeAny_call_defAt (body := .Expr (.Call (.Attribute (.Call (.Name "super" p0) [] [] p1) "__init__" p2) [x] [] pos1) pos2 :: rest) (binds := ps.zip us) hr.depth (KX _ _ lk) rfl lim (PySem.W.codeRec_of KX hcd) (by rw [← hst]) hb S.nocell (fun ⟨n, v⟩ hy => S.par n (List.of_mem_zip hy).1) (fun h₁ hns kp => ?_) S.co S.gen S.kind
  obtain ⟨ta, tr, a, dx, fs, ws, hx, hrest, rfl, ea, hq⟩ := hbody A outer s H vs Q E (hr.deeper _) hsp
  have hlk : ∀ (y : Str) (c : Addr), List.lookup y [(("__class__" : Str), cc)] = some c → y = "__class__" ∧ c = cc := fun y c e => by
    cases h : (y == ("__class__" : Str)) with
    | true => simp only [List.lookup, h, Option.some.injEq] at e; exact ⟨beq_iff_eq.mp h, e.symm⟩
    | false => simp [List.lookup, h] at e
  have cells : CellsAt [(("__class__" : Str), cc)] ["__class__"] [none] s.heap H := by
    refine ⟨rfl, fun y c e => ?_, fun y z c e1 e2 => (hlk y c e1).1.trans (hlk z c e2).1.symm, fun i y e => ?_⟩
    · rw [(hlk y c e).2]; exact ⟨(e0.bs _ _ (e0.mod.kin _ _ hcell)).2, _, _, KX _ _ hcell, rfl⟩
    · match i, e with
      | 0, e => cases e; exact ⟨cc, rfl, fun v hv => by cases hv⟩
  have I : Inv (ncx CX P w K mg base N ⟨"__init__", qual, L2.defArgs st, L2.defBody st, L2.defScope st, [("__class__", cc)], cda⟩ f A outer s H E) [] (startF N (V.ref a :: ws) [none]) H { s with heap := h₁, toks := s.toks + (ps.zip us).length } := inv_startN (F := ⟨"__init__", qual, L2.defArgs st, L2.defBody st, L2.defScope st, [("__class__", cc)], cda⟩) S hr.hd e0 hl r cells hns kp
  refine ks_wpAt_execs_cons (ks_wpAt_Expr_any (ks_wpAt_MethodCall (pl := pl) ?_ (hpl _)) I.quiet (hsw _ _))
  obtain ⟨_, _, _, ho, _⟩ := I.hok a _ ea
  obtain ⟨mb, hb1, hb2⟩ := I.mod.blt
  have hD := I.kIn _ _ lD
  refine ks_wpAt_super_base hks kc rfl rfl (I.kIn _ _ lk) rfl hself rfl (I.kIn _ _ hcode) rfl hvs hfile F.top ?_
  refine PySem.W.ks_loadName_global S.kind hks (Calls.loadGlobal_builtin (I.mod.glob.keeps I.bk) hmg (hb1.keeps I.bk) ((hb2 _ (by decide)).trans (by first | boot_by_name | rfl | kernel_rfl)) ⟨rfl, ?_⟩)
  refine wpAny_loadName_free S.kind kc rfl ⟨_, I.kIn _ _ hcell, rfl⟩ ?_
  obtain ⟨m, hn, hlo⟩ := I.loc
  obtain ⟨u, ru, lku⟩ := hlo 0 ar.arg (.ref a) hN0 rfl (.inl hka)
  obtain rfl : u = Value.ref a := ru
  have hv : m ar.arg = some (Value.ref a) := by
    rcases lku with ⟨_, z⟩ | ⟨z, _⟩
    · exact z
    · have z' : (L2.defScope st).names.lookup ar.arg = some .cell ∨ (L2.defScope st).names.lookup ar.arg = some .free := z
      rw [hka] at z'; rcases z' with z' | z' <;> cases z'
  refine wpAny_loadName_local S.kind hka hn hv ?_
  refine ks_wpAny_isType_cls hD dD ⟨rfl, ?_⟩
  refine ks_wpAny_call_super hD dD ho rfl (fun c z => by cases z) (PySem.W.looks_mroIn I.kIn F.sub) (fun h' eso kk => ?_)
  have I1 := I.kept (t' := s.toks + (ps.zip us).length) kk
  have ne : a ≠ D := fun z => by
    have := (I.bs D _ (e0.mod.kin _ _ lD)).2
    rw [← z, ea] at this
    cases this
  have hsup : PySem.W.alongIn K "__init__" ((cdD.mro.dropWhile (· != Value.ref D)).drop 1) = some (some (.ref f2)) := by
    have z := F.sup
    unfold PySem.W.ks_superIn at z
    rw [hcl] at z
    exact z
  obtain ⟨of, lf, hofc⟩ : ∃ of, K.lookup f2 = some of ∧ of.cls = .type "function" := by
    have ht' : (K.lookup f2).map (·.cls) = some (.type "function") := F.ty
    cases z : K.lookup f2 with
    | none => rw [z] at ht'; cases ht'
    | some of => rw [z] at ht'; exact ⟨of, rfl, Option.some.inj ht'⟩
  refine ks_wpAny_getMethod_super eso (PySem.W.looks_opaque I1.kIn F.any) (l₀ := cdD.mro) (fun A Q E s k q => wpAny_bind ((PySem.W.looks_clsIn I1.kIn hcl) A _ E s k (wpAny_pure q))) rfl I1.kIn hsup (I1.kIn _ _ lf) hofc ne rfl ?_
  have I2 := I1.kept (t' := s.toks + (ps.zip us).length + 1) (h' := h'.push (PySem.W.methodObj (.ref f2) (.ref a))) (fun b o e => Heap.get?_push_of_some _ e)
  have gu : (h'.push (PySem.W.methodObj (.ref f2) (.ref a))).get? h'.objs.size = some (PySem.W.methodObj (.ref f2) (.ref a)) := Heap.get?_push_size _ rfl
  have nl : h'.objs.size ≠ s.heap.objs.size := Nat.ne_of_gt I1.lt
  have I3 := ClX.pin_new (t' := s.toks + (ps.zip us).length + 1) I1 (h' := h'.push (PySem.W.methodObj (.ref f2) (.ref a))) (fun _ _ z => Heap.get?_push_of_some _ z) (Nat.le_refl _) gu (fun v z => nomatch z)
  have nb : (ncx CX P w K mg base N ⟨"__init__", qual, L2.defArgs st, L2.defBody st, L2.defScope st, [("__class__", cc)], cda⟩ f A outer s H E).base.get? h'.objs.size = none := by
    cases z : base.get? h'.objs.size with
    | none => exact z
    | some o => exact absurd (Heap.lt_size (I1.bk _ _ z)) (Nat.lt_irrefl _)
  have hx1 := hx.run pos1 _ _ _ _ _ I3 hq
  refine ClX.callwith_cm I3 nb F.fi (wpAny_mono hx1 (fun vv s1 hs1 => ?_) fun e s' z => z) (hsx _) rfl
  obtain ⟨vs1, H1, J1, r1, q1⟩ := hs1
  have pu := (J1.pin _ (List.mem_append_right _ List.mem_cons_self)).1
  refine ⟨⟨pu, J1.kIn⟩, ?_⟩
  have z := ClX.run_cm F2 (hr.deeper _) pass0 J1 r1 q1
  refine wpAny_mono z (fun v s2 hs2 => ?_) fun _ _ z => z
  obtain ⟨y, H2, J2, ry, q2⟩ := hs2
  refine wpAt_of_wpAny (wpAny_mono (hrest.run [] _ _ _ _ J2 q2) (fun fl s' hs => ?_) fun e s' z => z)
  have fin : ∀ {σ' : L2.St} {H' : Hp} {v : V} {u : Value}, Inv (ncx CX P w K mg base N ⟨"__init__", qual, L2.defArgs st, L2.defBody st, L2.defScope st, [("__class__", cc)], cda⟩ f A outer s H E) [] σ' H' s' → RelV v u → Q v H' → CE outer P w H s Q u s' :=
    fun {σ' H' v u} J rv q => ⟨v, H', J.os, J.bare, J.base, J.hok, rv, q⟩
  cases fl with
  | ret u =>
    obtain ⟨v, σ', H', J, rv, q⟩ := hs
    exact fin J rv q
  | next =>
    obtain ⟨σ', H', J, q⟩ := hs
    exact fin (v := V.non) (u := Value.none) J rfl q
  | brk =>
    obtain ⟨_, _, _, q⟩ := hs
    exact False.elim q
  | cont =>
    obtain ⟨_, _, _, q⟩ := hs
    exact False.elim q
/-- a tuple times a number: 1 is the tuple itself -/
def rRep1 (K : PySem.W.Frag) : R2 := fun x y H Q => ∃ l k xs, x = .ref l ∧ y = .int k ∧ SqT K H l xs ∧ xs ≠ [] ∧ 1 ≤ k ∧ k ≤ 1000 ∧ xs.length ≤ 1000 ∧ (k = 1 → Q (.ref l) H) ∧ ∀ p, H p = none → Q (.ref p) (upd H p (.tup (List.replicate k.toNat xs).flatten))
section
variable {X : Cx}
theorem tuple_mul1 (l : Addr) (items : Array Value) (n : Nat) (dd : Option Addr) (sl : Array (Option Value)) (u : Tok) :
    Meets (Builtin.«tuple.__mul__» ⟨[.ref l, .int 1 u], []⟩) (fun _ R s => s.heap.get? l = some { cls := .type "tuple", dict := dd, data := .seq items n, slots := sl } ∧ R (.ok (.ret (Value.ref l))) s) :=
  .of_wp fun prog w A R s h => by
    obtain ⟨hp, g, d, tk, os⟩ := s
    obtain ⟨hl, h⟩ := h
    have f1 := AutoSeq1.idx_int
    have c1 : (items.isEmpty || ((1 : Int) == 1)) = true := by simp
    wp_walk using wpAny_loadPart' hl
    repeat (first
      | (refine wpAny_ite_false (by decide) ?_; wp_walk using wpAny_loadPart' hl)
      | (refine wpAny_ite_true (by rw [c1]; rfl) ?_; wp_walk using wpAny_loadPart' hl)
      | (refine wpAny_ite_true (by simp) ?_; wp_walk using wpAny_loadPart' hl))
    exact ⟨_, rfl, h⟩
theorem op_rep1 : OpR X (binaryOp .Mult) (rRep1 X.K) := by
  intro pins s σ H x y v u Q I rx ry h
  obtain ⟨l, k, xs, rfl, rfl, hT, hne, h1, h2, hz, q1, q⟩ := h
  by_cases hk : k = 1
  · subst hk
    cases rx
    obtain ⟨t, rfl⟩ := ry
    obtain ⟨its, r, ⟨⟨cls, dd, data, sl⟩, ho, hc, n, hd⟩, hs⟩ := I.tuple hT
    simp only at hc hd
    subst hc hd
    exact wpAny_binaryOp_repeat_ref (T := "tuple") (U := "int") (by decide) ⟨_, ho, rfl⟩ (fun s' => typeIs_int s' 1 t) noFill_tuple_mul F.fills_int_mul F.slot_int_rmul repeat_tuple F.slot_int_index.lookup
      (call_meets F.slot_int_rmul (typeIs_int s 1 t) F.entry_int_rmul (F.args_int_rmul_2 _ _) (int_rmul_tuple 1 t l its.toArray n dd sl)
        ⟨ho, rfl, ⟨_, ho, rfl⟩, call_meets F.slot_tuple_mul ⟨_, ho, rfl⟩ F.entry_tuple_mul (F.args_tuple_mul_2 _ _) (tuple_mul1 l its.toArray n dd sl t) ⟨ho, ⟨.ref l, H, I, rfl, q1 rfl⟩⟩⟩)
  · exact op_repT pins s σ H _ _ v u Q I rx ry ⟨l, k, xs, rfl, rfl, hT, hne, by omega, h2, hz, q⟩
theorem op_rep1K (K : PySem.W.Frag) (h : X.K = K) : OpR X (binaryOp .Mult) (rRep1 K) := h ▸ op_rep1
theorem op_repTK (K : PySem.W.Frag) (h : X.K = K) : OpR X (binaryOp .Mult) (rRepT K) := h ▸ op_repT
end
end Sw
namespace GnX
open PySem PySem.Spec PyProof.Rows L2 GenW Evl
/-- a generator def of the text -/
theorem fun_gn {P : Program} {w : World} {K : PySem.W.Frag} {mg : Str → Option Value} {base : Heap} {x qual : Str} {st : Stmt} {f : Addr} {fd : FuncData} {N ps : List Str} {k : Nat} {sp : SpGn} (F : L2.Fun K x qual st f fd) (S : GScope N ps (L2.defScope st)) (nc : ∀ y ∈ (L2.defScope st).names, y.2 ≠ .cell ∧ y.2 ≠ .free)
    (len : ∀ vs H cn rows, sp vs H cn rows → vs.length = ps.length) (hcn : ∀ vs H cn rows, sp vs H cn rows → Clo cn ∧ Knows cn H)
    (hbody : ∀ (cdv : Value) (A : Around) (outer : List Env) (n0 : Nat) (H : Hp) (vs : List V) (cn : Kn) (rows : List (List V)) (WK : Nat → Pins → Shared → Prop) (CY : Nat → Pins → Value → Shared → Prop) (CE : Shared → Prop), Room k (A.deeper (envOfC qual (L2.defScope st) n0 f cdv)) → sp vs H cn rows →
      ∃ t, GSs2 ⟨plOf P w K mg base N qual (L2.defScope st) f cdv A outer n0, cn, rows, WK, CY, CE⟩ (L2.defBody st) t ∧ ∀ H0, Knows cn H0 → t { nx := fun j _ H' => j = rows.length ∧ Knows cn H' } 0 (start N vs) H0) : GFact P w K mg base (k + 1) f fd ps sp := by
  obtain ⟨oc, od, kV, doc, pm, an, cdv, ct, osl, rfl, lk, hcd⟩ := F.ex
  exact gfact_of lk hcd S nc len hcn fun A outer n0 H vs cn rows WK CY CE hr hsp => hbody cdv A outer n0 H vs cn rows WK CY CE hr hsp
theorem Knows.ex {cn : Kn} {H H' : Hp} (h : Knows cn H) (e : Ex H H') : Knows cn H' := fun b u q => e b u (h b u q)
section
variable {D : GE} {k i j : Nat} {σ : L2.St} {H : Hp} {te : TE} {u : TG2} {v : V} {xs : List V}
theorem g_asg (h : Ev te σ H v) (q : ∀ H1, Ex H H1 → u D k (σ.set i (some v)) H1) : tGThen2 (tPlain2 (tAsg te (gName i))) u D k σ H := h H (Ex.refl _) _ fun H1 e => q H1 e
theorem g_asgL (h : EvL te σ H xs) (q : ∀ p H1, H p = none → Ex H H1 → H1 p = some (.lst xs) → u D k (σ.set i (some (.ref p))) H1) : tGThen2 (tPlain2 (tAsg te (gName i))) u D k σ H := h H (Ex.refl _) _ fun p H1 n e hp => q p H1 n e hp
theorem g_asg2 (h : Ev te σ H v) (q : ∀ H1, Ex H H1 → u D k ((σ.set i (some v)).set j (some v)) H1) : tGThen2 (tPlain2 (tAsg2 te (gName i) (gName j))) u D k σ H := h H (Ex.refl _) _ fun H1 e => q H1 e
theorem g_expr (h : Ev te σ H v) (q : ∀ H1, Ex H H1 → u D k σ H1) : tGThen2 (tPlain2 (fun D σ H => te σ H fun _ H1 => D.nx σ H1)) u D k σ H := h H (Ex.refl _) _ fun H1 e => q H1 e
/-- a row of numbers handed out, one list goes on -/
theorem g_yield {B : GBd} {row xs : List V} {l : Addr} (hk : k < B.rows.length) (h : EvU te σ H row) (hrow : B.rows[k]? = some row) (hkn : Knows B.cn H) (hl : H l = some (.lst xs)) (hlc : B.cn.lookup l = none)
    (q : ∀ H2, Knows B.cn H2 → H2 l = some (.lst xs) → D.nx (k + 1) σ H2) : tGYield2 B te D k σ H := by
  refine ⟨hk, h H (Ex.refl _) _ fun p H1 n e hp => ⟨row, p, [(l, HO.lst xs)], hrow, rfl, hp, ?_, hkn.ex e, fun q hq => ?_, fun H2 k2 o2 => ?_⟩⟩
  · cases z : B.cn.lookup p with
    | none => rfl
    | some w =>
      have := hkn p w z
      rw [n] at this; cases this
  · obtain rfl : q = (l, HO.lst xs) := List.mem_singleton.mp hq
    exact ⟨⟨xs, rfl⟩, e _ _ hl, hlc⟩
  · refine q H2 k2 (o2 (l, HO.lst xs) (List.mem_singleton.mpr rfl) ?_)
    show (B.cn ++ [(l, HO.lst xs)]).lookup l = some (.lst xs)
    rw [List.lookup_append, hlc]
    simp
/-- a new list is none of the consumer's things -/
theorem new_out {cn : Kn} {H : Hp} (h : Knows cn H) {p : Addr} (n : H p = none) : cn.lookup p = none := by
  cases z : cn.lookup p with
  | none => rfl
  | some w =>
    have := h p w z
    rw [n] at this; cases this
end
end GnX
namespace Sw
open PySem PySem.Spec PyProof.Rows L2 Evl
def topS (i : Nat) : Stmt := PySem.Challenge.pw_staleloaves_k42_whole_rules_and_bakeries.main.body.getD i (.Pass ⟨0, 0, 0, 0⟩)
abbrev s_count_keepable : Stmt := topS 3
abbrev n_count_keepable : List Str := ["bakes", "life", "length", "at", "age"]
abbrev p_count_keepable : List Str := ["bakes", "life"]
theorem sc_count_keepable : FnScope n_count_keepable p_count_keepable (defScope s_count_keepable) := ⟨rfl, rfl, rfl, by decide +kernel, rfl, by decide +kernel, by decide +kernel⟩
abbrev s_sum_repeated : Stmt := topS 2
abbrev n_sum_repeated : List Str := ["amounts", "days", "rounds", "rest"]
abbrev p_sum_repeated : List Str := ["amounts", "days"]
theorem sc_sum_repeated : FnScope n_sum_repeated p_sum_repeated (defScope s_sum_repeated) := ⟨rfl, rfl, rfl, by decide +kernel, rfl, by decide +kernel, by decide +kernel⟩
abbrev s_Course___init__ : Stmt := inClass (topS 4) 0
abbrev n_Course___init__ : List Str := ["self", "bakes", "demands", "life"]
abbrev p_Course___init__ : List Str := ["self", "bakes", "demands", "life"]
theorem sc_Course___init__ : FnScope n_Course___init__ p_Course___init__ (defScope s_Course___init__) := ⟨rfl, rfl, rfl, by decide +kernel, rfl, by decide +kernel, by decide +kernel⟩
abbrev s_Course_stock_at : Stmt := inClass (topS 4) 1
abbrev n_Course_stock_at : List Str := ["self", "day", "rounds", "at"]
abbrev p_Course_stock_at : List Str := ["self", "day"]
theorem sc_Course_stock_at : FnScope n_Course_stock_at p_Course_stock_at (defScope s_Course_stock_at) := ⟨rfl, rfl, rfl, by decide +kernel, rfl, by decide +kernel, by decide +kernel⟩
abbrev s_Course_sales_on : Stmt := inClass (topS 4) 2
abbrev n_Course_sales_on : List Str := ["self", "day", "rounds", "at", "stocks", "loaves", "sold"]
abbrev p_Course_sales_on : List Str := ["self", "day"]
theorem sc_Course_sales_on : FnScope n_Course_sales_on p_Course_sales_on (defScope s_Course_sales_on) := ⟨rfl, rfl, rfl, by decide +kernel, rfl, by decide +kernel, by decide +kernel⟩
abbrev s_Course_sales_before : Stmt := inClass (topS 4) 3
abbrev n_Course_sales_before : List Str := ["self", "days", "later", "missed", "sold"]
abbrev p_Course_sales_before : List Str := ["self", "days"]
theorem sc_Course_sales_before : FnScope n_Course_sales_before p_Course_sales_before (defScope s_Course_sales_before) := ⟨rfl, rfl, rfl, by decide +kernel, rfl, by decide +kernel, by decide +kernel⟩
abbrev s_Course_find_settled : Stmt := inClass (topS 4) 5
abbrev n_Course_find_settled : List Str := ["self", "rounds", "stocks", "later", "at"]
abbrev p_Course_find_settled : List Str := ["self"]
theorem sc_Course_find_settled : FnScope n_Course_find_settled p_Course_find_settled (defScope s_Course_find_settled) := ⟨rfl, rfl, rfl, by decide +kernel, rfl, by decide +kernel, by decide +kernel⟩
abbrev s_Course_sum_settled_round : Stmt := inClass (topS 4) 6
abbrev n_Course_sum_settled_round : List Str := ["self", "missed", "sold"]
abbrev p_Course_sum_settled_round : List Str := ["self"]
theorem sc_Course_sum_settled_round : FnScope n_Course_sum_settled_round p_Course_sum_settled_round (defScope s_Course_sum_settled_round) := ⟨rfl, rfl, rfl, by decide +kernel, rfl, by decide +kernel, by decide +kernel⟩
abbrev s_Course__play_round : Stmt := inClass (topS 4) 7
abbrev n_Course__play_round : List Str := ["self", "stock", "stocks", "bake", "demand", "most", "left"]
abbrev p_Course__play_round : List Str := ["self", "stock"]
theorem sc_Course__play_round : FnScope n_Course__play_round p_Course__play_round (defScope s_Course__play_round) := ⟨rfl, rfl, rfl, by decide +kernel, rfl, by decide +kernel, by decide +kernel⟩
abbrev s_Course__stocks_in : Stmt := inClass (topS 4) 8
abbrev n_Course__stocks_in : List Str := ["self", "rounds", "start"]
abbrev p_Course__stocks_in : List Str := ["self", "rounds"]
theorem sc_Course__stocks_in : FnScope n_Course__stocks_in p_Course__stocks_in (defScope s_Course__stocks_in) := ⟨rfl, rfl, rfl, by decide +kernel, rfl, by decide +kernel, by decide +kernel⟩
abbrev s_Course__misses_in : Stmt := inClass (topS 4) 9
abbrev n_Course__misses_in : List Str := ["self", "rounds", "stocks", "at", "demand"]
abbrev p_Course__misses_in : List Str := ["self", "rounds"]
theorem sc_Course__misses_in : FnScope n_Course__misses_in p_Course__misses_in (defScope s_Course__misses_in) := ⟨rfl, rfl, rfl, by decide +kernel, rfl, by decide +kernel, by decide +kernel⟩
abbrev s_Course__count_growing : Stmt := inClass (topS 4) 10
abbrev n_Course__count_growing : List Str := ["self"]
abbrev p_Course__count_growing : List Str := ["self"]
theorem sc_Course__count_growing : FnScope n_Course__count_growing p_Course__count_growing (defScope s_Course__count_growing) := ⟨rfl, rfl, rfl, by decide +kernel, rfl, by decide +kernel, by decide +kernel⟩
abbrev s_check_number : Stmt := topS 13
abbrev n_check_number : List Str := ["number", "lowest", "highest"]
abbrev p_check_number : List Str := ["number", "lowest", "highest"]
theorem sc_check_number : FnScope n_check_number p_check_number (defScope s_check_number) := ⟨rfl, rfl, rfl, by decide +kernel, rfl, by decide +kernel, by decide +kernel⟩
abbrev s_check_amounts : Stmt := topS 15
abbrev n_check_amounts : List Str := ["part", "amounts", "at", "amount"]
abbrev p_check_amounts : List Str := ["part", "amounts"]
theorem sc_check_amounts : FnScope n_check_amounts p_check_amounts (defScope s_check_amounts) := ⟨rfl, rfl, rfl, by decide +kernel, rfl, by decide +kernel, by decide +kernel⟩
abbrev s_check_life : Stmt := topS 16
abbrev n_check_life : List Str := ["life"]
abbrev p_check_life : List Str := ["life"]
theorem sc_check_life : FnScope n_check_life p_check_life (defScope s_check_life) := ⟨rfl, rfl, rfl, by decide +kernel, rfl, by decide +kernel, by decide +kernel⟩
abbrev s_check_bakery : Stmt := topS 17
abbrev n_check_bakery : List Str := ["bakes", "demands", "life"]
abbrev p_check_bakery : List Str := ["bakes", "demands", "life"]
theorem sc_check_bakery : FnScope n_check_bakery p_check_bakery (defScope s_check_bakery) := ⟨rfl, rfl, rfl, by decide +kernel, rfl, by decide +kernel, by decide +kernel⟩
abbrev s_Bakery___init__ : Stmt := inClass (topS 18) 2
abbrev n_Bakery___init__ : List Str := ["self", "bakes", "demands", "life"]
abbrev p_Bakery___init__ : List Str := ["self", "bakes", "demands", "life"]
theorem sc_Bakery___init__ : FnScope n_Bakery___init__ p_Bakery___init__ (defScope s_Bakery___init__) := ⟨rfl, rfl, rfl, by decide +kernel, rfl, by decide +kernel, by decide +kernel⟩
abbrev s_Bakery_sold : Stmt := inClass (topS 18) 11
abbrev n_Bakery_sold : List Str := ["self", "day"]
abbrev p_Bakery_sold : List Str := ["self", "day"]
theorem sc_Bakery_sold : FnScope n_Bakery_sold p_Bakery_sold (defScope s_Bakery_sold) := ⟨rfl, rfl, rfl, by decide +kernel, rfl, by decide +kernel, by decide +kernel⟩
abbrev s_Bakery_missed : Stmt := inClass (topS 18) 12
abbrev n_Bakery_missed : List Str := ["self", "day"]
abbrev p_Bakery_missed : List Str := ["self", "day"]
theorem sc_Bakery_missed : FnScope n_Bakery_missed p_Bakery_missed (defScope s_Bakery_missed) := ⟨rfl, rfl, rfl, by decide +kernel, rfl, by decide +kernel, by decide +kernel⟩
abbrev s_Bakery_thrown : Stmt := inClass (topS 18) 13
abbrev n_Bakery_thrown : List Str := ["self", "day"]
abbrev p_Bakery_thrown : List Str := ["self", "day"]
theorem sc_Bakery_thrown : FnScope n_Bakery_thrown p_Bakery_thrown (defScope s_Bakery_thrown) := ⟨rfl, rfl, rfl, by decide +kernel, rfl, by decide +kernel, by decide +kernel⟩
abbrev s_Bakery_totals : Stmt := inClass (topS 18) 14
abbrev n_Bakery_totals : List Str := ["self", "days"]
abbrev p_Bakery_totals : List Str := ["self", "days"]
theorem sc_Bakery_totals : FnScope n_Bakery_totals p_Bakery_totals (defScope s_Bakery_totals) := ⟨rfl, rfl, rfl, by decide +kernel, rfl, by decide +kernel, by decide +kernel⟩
abbrev s_check_part : Stmt := topS 21
abbrev n_check_part : List Str := ["part", "number", "lowest"]
abbrev p_check_part : List Str := ["part", "number", "lowest"]
theorem sc_check_part : FnScope n_check_part p_check_part (defScope s_check_part) := ⟨rfl, rfl, rfl, by decide +kernel, rfl, by decide +kernel, by decide +kernel⟩
abbrev s_Rule___init__ : Stmt := inClass (topS 22) 1
abbrev n_Rule___init__ : List Str := ["self", "amount"]
abbrev p_Rule___init__ : List Str := ["self", "amount"]
theorem sc_Rule___init__ : FnScope n_Rule___init__ p_Rule___init__ (defScope s_Rule___init__) := ⟨rfl, rfl, rfl, by decide +kernel, rfl, by decide +kernel, by decide +kernel⟩
abbrev s_Rule_count_baked : Stmt := inClass (topS 22) 2
abbrev n_Rule_count_baked : List Str := ["self", "day", "stock", "sold"]
abbrev p_Rule_count_baked : List Str := ["self", "day", "stock", "sold"]
theorem sc_Rule_count_baked : FnScope n_Rule_count_baked p_Rule_count_baked (defScope s_Rule_count_baked) := ⟨rfl, rfl, rfl, by decide +kernel, rfl, by decide +kernel, by decide +kernel⟩
abbrev s_RefillRule___init__ : Stmt := inClass (topS 23) 1
abbrev n_RefillRule___init__ : List Str := ["self", "goal"]
abbrev p_RefillRule___init__ : List Str := ["self", "goal"]
theorem sc_RefillRule___init__ : FnScope n_RefillRule___init__ p_RefillRule___init__ (defScope s_RefillRule___init__) := ⟨rfl, rfl, rfl, by decide +kernel, rfl, by decide +kernel, by decide +kernel⟩
abbrev s_RefillRule_count_baked : Stmt := inClass (topS 23) 2
abbrev n_RefillRule_count_baked : List Str := ["self", "day", "stock", "sold"]
abbrev p_RefillRule_count_baked : List Str := ["self", "day", "stock", "sold"]
theorem sc_RefillRule_count_baked : FnScope n_RefillRule_count_baked p_RefillRule_count_baked (defScope s_RefillRule_count_baked) := ⟨rfl, rfl, rfl, by decide +kernel, rfl, by decide +kernel, by decide +kernel⟩
abbrev s_SoldRule___init__ : Stmt := inClass (topS 24) 1
abbrev n_SoldRule___init__ : List Str := ["self", "amount", "more", "__class__"]
abbrev p_SoldRule___init__ : List Str := ["self", "amount", "more"]
theorem sc_SoldRule___init__ : NdefX.NScope n_SoldRule___init__ p_SoldRule___init__ ["__class__"] (defScope s_SoldRule___init__) := NdefX.nscope_by (by decide +kernel)
abbrev s_SoldRule_count_baked : Stmt := inClass (topS 24) 2
abbrev n_SoldRule_count_baked : List Str := ["self", "day", "stock", "sold"]
abbrev p_SoldRule_count_baked : List Str := ["self", "day", "stock", "sold"]
theorem sc_SoldRule_count_baked : FnScope n_SoldRule_count_baked p_SoldRule_count_baked (defScope s_SoldRule_count_baked) := ⟨rfl, rfl, rfl, by decide +kernel, rfl, by decide +kernel, by decide +kernel⟩
abbrev s_run : Stmt := topS 25
abbrev n_run : List Str := ["rule", "demands", "life", "days", "stock", "sold", "recent", "day", "demand", "baked", "left"]
abbrev p_run : List Str := ["rule", "demands", "life", "days"]
theorem sc_run : GScope n_run p_run (defScope s_run) := ⟨rfl, rfl, rfl, by decide +kernel, rfl, by decide +kernel, by decide +kernel⟩
theorem sn_run : ∀ y ∈ (defScope s_run).names, y.2 ≠ .cell ∧ y.2 ≠ .free := by decide +kernel
abbrev s_outcome : Stmt := topS 26
abbrev n_outcome : List Str := ["rule", "demands", "life", "days", "sums", "row", "total", "number"]
abbrev p_outcome : List Str := ["rule", "demands", "life", "days"]
theorem sc_outcome : FnScope n_outcome p_outcome (defScope s_outcome) := ⟨rfl, rfl, rfl, by decide +kernel, rfl, by decide +kernel, by decide +kernel⟩
abbrev s__law_start : Stmt := topS 28
abbrev n__law_start : List Str := ["_law_script", "_law_mixed", "_law_cell"]
abbrev p__law_start : List Str := ["_law_script"]
theorem sc__law_start : FnScope n__law_start p__law_start (defScope s__law_start) := ⟨rfl, rfl, rfl, by decide +kernel, rfl, by decide +kernel, by decide +kernel⟩
abbrev s__law_drawn : Stmt := topS 29
abbrev n__law_drawn : List Str := ["_law_state", "_law_count", "_law_result", "_law_cell"]
abbrev p__law_drawn : List Str := ["_law_state", "_law_count"]
theorem sc__law_drawn : FnScope n__law_drawn p__law_drawn (defScope s__law_drawn) := ⟨rfl, rfl, rfl, by decide +kernel, rfl, by decide +kernel, by decide +kernel⟩
abbrev s__law_amounts : Stmt := topS 31
abbrev n__law_amounts : List Str := ["_law_state", "_law_size", "_law_high", "_law_k"]
abbrev p__law_amounts : List Str := ["_law_state", "_law_size", "_law_high"]
theorem sc__law_amounts : FnScope n__law_amounts p__law_amounts (defScope s__law_amounts) := ⟨rfl, rfl, rfl, by decide +kernel, rfl, by decide +kernel, by decide +kernel⟩
abbrev s_law : Stmt := topS 34
abbrev n_law : List Str := ["_law_script", "_law_state", "_law_turn", "_law_high", "_law_demands", "_law_life", "_law_days", "_law_amount", "_law_bakery", "_law_rows", "_law_day", "_law_stock", "_law_baked", "_law_sold_here", "_law_missed", "_law_thrown", "_law_one", "_law_other", "_law_wished", "_law_row", "_law_k"]
abbrev p_law : List Str := ["_law_script"]
theorem sc_law : FnScope n_law p_law (defScope s_law) := ⟨rfl, rfl, rfl, by decide +kernel, rfl, by decide +kernel, by decide +kernel⟩
structure Ad where
  c_Course : Addr
  c_Bakery : Addr
  c_Rule : Addr
  c_RefillRule : Addr
  c_SoldRule : Addr
  mc_Course : Value
  mc_Bakery : Value
  mc_Rule : Value
  mc_RefillRule : Value
  mc_SoldRule : Value
  t_MOST_LOAVES : Tok
  t_LAST_DAY : Tok
  t_MOST_RULE_DAYS : Tok
  f_count_keepable : Addr
  d_count_keepable : FuncData
  f_sum_repeated : Addr
  d_sum_repeated : FuncData
  f_Course___init__ : Addr
  d_Course___init__ : FuncData
  f_Course_stock_at : Addr
  d_Course_stock_at : FuncData
  f_Course_sales_on : Addr
  d_Course_sales_on : FuncData
  f_Course_sales_before : Addr
  d_Course_sales_before : FuncData
  f_Course_find_settled : Addr
  d_Course_find_settled : FuncData
  f_Course_sum_settled_round : Addr
  d_Course_sum_settled_round : FuncData
  f_Course__play_round : Addr
  d_Course__play_round : FuncData
  f_Course__stocks_in : Addr
  d_Course__stocks_in : FuncData
  f_Course__misses_in : Addr
  d_Course__misses_in : FuncData
  f_Course__count_growing : Addr
  d_Course__count_growing : FuncData
  f_check_number : Addr
  d_check_number : FuncData
  f_check_amounts : Addr
  d_check_amounts : FuncData
  f_check_life : Addr
  d_check_life : FuncData
  f_check_bakery : Addr
  d_check_bakery : FuncData
  f_Bakery___init__ : Addr
  d_Bakery___init__ : FuncData
  f_Bakery_sold : Addr
  d_Bakery_sold : FuncData
  f_Bakery_missed : Addr
  d_Bakery_missed : FuncData
  f_Bakery_thrown : Addr
  d_Bakery_thrown : FuncData
  f_Bakery_totals : Addr
  d_Bakery_totals : FuncData
  f_check_part : Addr
  d_check_part : FuncData
  f_Rule___init__ : Addr
  d_Rule___init__ : FuncData
  f_Rule_count_baked : Addr
  d_Rule_count_baked : FuncData
  f_RefillRule___init__ : Addr
  d_RefillRule___init__ : FuncData
  f_RefillRule_count_baked : Addr
  d_RefillRule_count_baked : FuncData
  f_SoldRule___init__ : Addr
  d_SoldRule___init__ : FuncData
  f_SoldRule_count_baked : Addr
  d_SoldRule_count_baked : FuncData
  f_run : Addr
  d_run : FuncData
  f_outcome : Addr
  d_outcome : FuncData
  f__law_start : Addr
  d__law_start : FuncData
  f__law_drawn : Addr
  d__law_drawn : FuncData
  f__law_amounts : Addr
  d__law_amounts : FuncData
  f_law : Addr
  d_law : FuncData
  k_SoldRule___init__ : Addr
  cc_SoldRule___init__ : Addr
  P : Program
structure Txt (K : PySem.W.Frag) (mg : Str → Option Value) (Z : Ad) : Prop where
  cl_Course : Cls K Z.c_Course
  g_Course : mg "Course" = some (.ref Z.c_Course)
  mk_Course : Mk K Z.c_Course Z.f_Course___init__
  na_Course__bakes : NoAttr K Z.c_Course "_bakes"
  na_Course__demands : NoAttr K Z.c_Course "_demands"
  na_Course__keepable : NoAttr K Z.c_Course "_keepable"
  na_Course__gain : NoAttr K Z.c_Course "_gain"
  na_Course__first_end : NoAttr K Z.c_Course "_first_end"
  na_Course__full_end : NoAttr K Z.c_Course "_full_end"
  na_Course__first_misses : NoAttr K Z.c_Course "_first_misses"
  na_Course__later_misses : NoAttr K Z.c_Course "_later_misses"
  cl_Bakery : Cls K Z.c_Bakery
  g_Bakery : mg "Bakery" = some (.ref Z.c_Bakery)
  mk_Bakery : Mk K Z.c_Bakery Z.f_Bakery___init__
  na_Bakery__bakes : NoAttr K Z.c_Bakery "_bakes"
  na_Bakery__demands : NoAttr K Z.c_Bakery "_demands"
  na_Bakery__life : NoAttr K Z.c_Bakery "_life"
  na_Bakery_course : NoAttr K Z.c_Bakery "course"
  na_Bakery__settled_day : NoAttr K Z.c_Bakery "_settled_day"
  na_Bakery__long_run : NoAttr K Z.c_Bakery "_long_run"
  cv_Bakery_MAX_DAYS : ClX.CRead K Z.c_Bakery Z.mc_Bakery ∧ ∃ u, ClX.CVal K Z.c_Bakery Z.mc_Bakery "MAX_DAYS" (.int 24) u
  cv_Bakery_MAX_LIFE : ClX.CRead K Z.c_Bakery Z.mc_Bakery ∧ ∃ u, ClX.CVal K Z.c_Bakery Z.mc_Bakery "MAX_LIFE" (.int 30) u
  cl_Rule : Cls K Z.c_Rule
  g_Rule : mg "Rule" = some (.ref Z.c_Rule)
  mk_Rule : Mk K Z.c_Rule Z.f_Rule___init__
  na_Rule__amount : NoAttr K Z.c_Rule "_amount"
  cl_RefillRule : Cls K Z.c_RefillRule
  g_RefillRule : mg "RefillRule" = some (.ref Z.c_RefillRule)
  mk_RefillRule : Mk K Z.c_RefillRule Z.f_RefillRule___init__
  na_RefillRule__goal : NoAttr K Z.c_RefillRule "_goal"
  cl_SoldRule : Cls K Z.c_SoldRule
  g_SoldRule : mg "SoldRule" = some (.ref Z.c_SoldRule)
  mk_SoldRule : Mk K Z.c_SoldRule Z.f_SoldRule___init__
  na_SoldRule__more : NoAttr K Z.c_SoldRule "_more"
  na_SoldRule__amount : NoAttr K Z.c_SoldRule "_amount"
  g_MOST_LOAVES : mg "MOST_LOAVES" = some (.int 1000000000 Z.t_MOST_LOAVES)
  g_LAST_DAY : mg "LAST_DAY" = some (.int 1000000000000000000 Z.t_LAST_DAY)
  g_MOST_RULE_DAYS : mg "MOST_RULE_DAYS" = some (.int 10000 Z.t_MOST_RULE_DAYS)
  b_divmod : mg "divmod" = none
  b_enumerate : mg "enumerate" = none
  b_int : mg "int" = none
  b_len : mg "len" = none
  b_max : mg "max" = none
  b_min : mg "min" = none
  b_range : mg "range" = none
  b_sum : mg "sum" = none
  b_super : mg "super" = none
  b_tuple : mg "tuple" = none
  b_zip : mg "zip" = none
  F_count_keepable : Fun K "count_keepable" "count_keepable" s_count_keepable Z.f_count_keepable Z.d_count_keepable
  b_count_keepable : Binds K Z.d_count_keepable p_count_keepable []
  g_count_keepable : mg "count_keepable" = some (.ref Z.f_count_keepable)
  F_sum_repeated : Fun K "sum_repeated" "sum_repeated" s_sum_repeated Z.f_sum_repeated Z.d_sum_repeated
  b_sum_repeated : Binds K Z.d_sum_repeated p_sum_repeated []
  g_sum_repeated : mg "sum_repeated" = some (.ref Z.f_sum_repeated)
  F_Course___init__ : Fun K "__init__" "Course.__init__" s_Course___init__ Z.f_Course___init__ Z.d_Course___init__
  b_Course___init__ : Binds K Z.d_Course___init__ p_Course___init__ []
  F_Course_stock_at : Fun K "stock_at" "Course.stock_at" s_Course_stock_at Z.f_Course_stock_at Z.d_Course_stock_at
  b_Course_stock_at : Binds K Z.d_Course_stock_at p_Course_stock_at []
  m_Course_stock_at : Meth K Z.c_Course "stock_at" Z.f_Course_stock_at
  F_Course_sales_on : Fun K "sales_on" "Course.sales_on" s_Course_sales_on Z.f_Course_sales_on Z.d_Course_sales_on
  b_Course_sales_on : Binds K Z.d_Course_sales_on p_Course_sales_on []
  m_Course_sales_on : Meth K Z.c_Course "sales_on" Z.f_Course_sales_on
  F_Course_sales_before : Fun K "sales_before" "Course.sales_before" s_Course_sales_before Z.f_Course_sales_before Z.d_Course_sales_before
  b_Course_sales_before : Binds K Z.d_Course_sales_before p_Course_sales_before []
  m_Course_sales_before : Meth K Z.c_Course "sales_before" Z.f_Course_sales_before
  F_Course_find_settled : Fun K "find_settled" "Course.find_settled" s_Course_find_settled Z.f_Course_find_settled Z.d_Course_find_settled
  b_Course_find_settled : Binds K Z.d_Course_find_settled p_Course_find_settled []
  m_Course_find_settled : Meth K Z.c_Course "find_settled" Z.f_Course_find_settled
  F_Course_sum_settled_round : Fun K "sum_settled_round" "Course.sum_settled_round" s_Course_sum_settled_round Z.f_Course_sum_settled_round Z.d_Course_sum_settled_round
  b_Course_sum_settled_round : Binds K Z.d_Course_sum_settled_round p_Course_sum_settled_round []
  m_Course_sum_settled_round : Meth K Z.c_Course "sum_settled_round" Z.f_Course_sum_settled_round
  F_Course__play_round : Fun K "_play_round" "Course._play_round" s_Course__play_round Z.f_Course__play_round Z.d_Course__play_round
  b_Course__play_round : Binds K Z.d_Course__play_round p_Course__play_round []
  m_Course__play_round : Meth K Z.c_Course "_play_round" Z.f_Course__play_round
  F_Course__stocks_in : Fun K "_stocks_in" "Course._stocks_in" s_Course__stocks_in Z.f_Course__stocks_in Z.d_Course__stocks_in
  b_Course__stocks_in : Binds K Z.d_Course__stocks_in p_Course__stocks_in []
  m_Course__stocks_in : Meth K Z.c_Course "_stocks_in" Z.f_Course__stocks_in
  F_Course__misses_in : Fun K "_misses_in" "Course._misses_in" s_Course__misses_in Z.f_Course__misses_in Z.d_Course__misses_in
  b_Course__misses_in : Binds K Z.d_Course__misses_in p_Course__misses_in []
  m_Course__misses_in : Meth K Z.c_Course "_misses_in" Z.f_Course__misses_in
  F_Course__count_growing : Fun K "_count_growing" "Course._count_growing" s_Course__count_growing Z.f_Course__count_growing Z.d_Course__count_growing
  b_Course__count_growing : Binds K Z.d_Course__count_growing p_Course__count_growing []
  m_Course__count_growing : Meth K Z.c_Course "_count_growing" Z.f_Course__count_growing
  F_check_number : Fun K "check_number" "check_number" s_check_number Z.f_check_number Z.d_check_number
  b_check_number : Binds K Z.d_check_number p_check_number []
  g_check_number : mg "check_number" = some (.ref Z.f_check_number)
  F_check_amounts : Fun K "check_amounts" "check_amounts" s_check_amounts Z.f_check_amounts Z.d_check_amounts
  b_check_amounts : Binds K Z.d_check_amounts p_check_amounts []
  g_check_amounts : mg "check_amounts" = some (.ref Z.f_check_amounts)
  F_check_life : Fun K "check_life" "check_life" s_check_life Z.f_check_life Z.d_check_life
  b_check_life : Binds K Z.d_check_life p_check_life []
  g_check_life : mg "check_life" = some (.ref Z.f_check_life)
  F_check_bakery : Fun K "check_bakery" "check_bakery" s_check_bakery Z.f_check_bakery Z.d_check_bakery
  b_check_bakery : Binds K Z.d_check_bakery p_check_bakery []
  g_check_bakery : mg "check_bakery" = some (.ref Z.f_check_bakery)
  F_Bakery___init__ : Fun K "__init__" "Bakery.__init__" s_Bakery___init__ Z.f_Bakery___init__ Z.d_Bakery___init__
  b_Bakery___init__ : Binds K Z.d_Bakery___init__ p_Bakery___init__ []
  F_Bakery_sold : Fun K "sold" "Bakery.sold" s_Bakery_sold Z.f_Bakery_sold Z.d_Bakery_sold
  b_Bakery_sold : Binds K Z.d_Bakery_sold p_Bakery_sold []
  m_Bakery_sold : Meth K Z.c_Bakery "sold" Z.f_Bakery_sold
  F_Bakery_missed : Fun K "missed" "Bakery.missed" s_Bakery_missed Z.f_Bakery_missed Z.d_Bakery_missed
  b_Bakery_missed : Binds K Z.d_Bakery_missed p_Bakery_missed []
  m_Bakery_missed : Meth K Z.c_Bakery "missed" Z.f_Bakery_missed
  F_Bakery_thrown : Fun K "thrown" "Bakery.thrown" s_Bakery_thrown Z.f_Bakery_thrown Z.d_Bakery_thrown
  b_Bakery_thrown : Binds K Z.d_Bakery_thrown p_Bakery_thrown []
  m_Bakery_thrown : Meth K Z.c_Bakery "thrown" Z.f_Bakery_thrown
  F_Bakery_totals : Fun K "totals" "Bakery.totals" s_Bakery_totals Z.f_Bakery_totals Z.d_Bakery_totals
  b_Bakery_totals : Binds K Z.d_Bakery_totals p_Bakery_totals []
  m_Bakery_totals : Meth K Z.c_Bakery "totals" Z.f_Bakery_totals
  F_check_part : Fun K "check_part" "check_part" s_check_part Z.f_check_part Z.d_check_part
  b_check_part : Binds K Z.d_check_part p_check_part []
  g_check_part : mg "check_part" = some (.ref Z.f_check_part)
  F_Rule___init__ : Fun K "__init__" "Rule.__init__" s_Rule___init__ Z.f_Rule___init__ Z.d_Rule___init__
  b_Rule___init__ : Binds K Z.d_Rule___init__ p_Rule___init__ []
  F_Rule_count_baked : Fun K "count_baked" "Rule.count_baked" s_Rule_count_baked Z.f_Rule_count_baked Z.d_Rule_count_baked
  b_Rule_count_baked : Binds K Z.d_Rule_count_baked p_Rule_count_baked []
  m_Rule_count_baked : Meth K Z.c_Rule "count_baked" Z.f_Rule_count_baked
  F_RefillRule___init__ : Fun K "__init__" "RefillRule.__init__" s_RefillRule___init__ Z.f_RefillRule___init__ Z.d_RefillRule___init__
  b_RefillRule___init__ : Binds K Z.d_RefillRule___init__ p_RefillRule___init__ []
  F_RefillRule_count_baked : Fun K "count_baked" "RefillRule.count_baked" s_RefillRule_count_baked Z.f_RefillRule_count_baked Z.d_RefillRule_count_baked
  b_RefillRule_count_baked : Binds K Z.d_RefillRule_count_baked p_RefillRule_count_baked []
  m_RefillRule_count_baked : Meth K Z.c_RefillRule "count_baked" Z.f_RefillRule_count_baked
  su_SoldRule___init__ : SupO Z.P K "SoldRule.__init__" s_SoldRule___init__ Z.f_SoldRule___init__ Z.d_SoldRule___init__ Z.k_SoldRule___init__ Z.cc_SoldRule___init__ Z.c_SoldRule Z.f_Rule___init__
  b_SoldRule___init__ : KBn K Z.d_SoldRule___init__ p_SoldRule___init__ 2 ["more"] (fun us ws => us ++ ws) (fun vs zs => vs ++ zs)
  F_SoldRule_count_baked : Fun K "count_baked" "SoldRule.count_baked" s_SoldRule_count_baked Z.f_SoldRule_count_baked Z.d_SoldRule_count_baked
  b_SoldRule_count_baked : Binds K Z.d_SoldRule_count_baked p_SoldRule_count_baked []
  m_SoldRule_count_baked : Meth K Z.c_SoldRule "count_baked" Z.f_SoldRule_count_baked
  F_run : Fun K "run" "run" s_run Z.f_run Z.d_run
  b_run : Binds K Z.d_run p_run []
  g_run : mg "run" = some (.ref Z.f_run)
  F_outcome : Fun K "outcome" "outcome" s_outcome Z.f_outcome Z.d_outcome
  b_outcome : Binds K Z.d_outcome p_outcome []
  g_outcome : mg "outcome" = some (.ref Z.f_outcome)
  F__law_start : Fun K "_law_start" "_law_start" s__law_start Z.f__law_start Z.d__law_start
  b__law_start : Binds K Z.d__law_start p__law_start []
  g__law_start : mg "_law_start" = some (.ref Z.f__law_start)
  F__law_drawn : Fun K "_law_drawn" "_law_drawn" s__law_drawn Z.f__law_drawn Z.d__law_drawn
  b__law_drawn : Binds K Z.d__law_drawn p__law_drawn []
  g__law_drawn : mg "_law_drawn" = some (.ref Z.f__law_drawn)
  F__law_amounts : Fun K "_law_amounts" "_law_amounts" s__law_amounts Z.f__law_amounts Z.d__law_amounts
  b__law_amounts : Binds K Z.d__law_amounts p__law_amounts []
  g__law_amounts : mg "_law_amounts" = some (.ref Z.f__law_amounts)
  F_law : Fun K "law" "law" s_law Z.f_law Z.d_law
  b_law : Binds K Z.d_law p_law []
  g_law : mg "law" = some (.ref Z.f_law)
end Sw
namespace Sw
open PySem PySem.Spec PyProof.Rows L2 Evl
/-! ### the mirror: what the package computes -/
def keepAt (bs : List Int) (life : Int) (i : Nat) : Int := ((List.range (life - 1).toNat).map fun (age : Nat) => bs.getD ((((i : Int) - (age : Int)) % (bs.length : Int)).toNat) 0).sum
def keepL (bs : List Int) (life : Int) : List Int := (List.range bs.length).map (keepAt bs life)
def sumRep (am : List Int) (days : Int) : Int := days / (am.length : Int) * am.sum + (am.take (days % (am.length : Int)).toNat).sum
def stp (s b d k : Int) : Int := min (max 0 (s + b - d)) k
def stkAt (bs ds ks : List Int) (s : Int) : Nat → Int
  | 0 => s
  | i + 1 => stp (stkAt bs ds ks s i) (bs.getD i 0) (ds.getD i 0) (ks.getD i 0)
def stkL (bs ds ks : List Int) (s : Int) : List Int := (List.range (bs.length + 1)).map (stkAt bs ds ks s)
/-! ### an instance's fields, for the walk -/
/-- the instance at a has the field, and its class lets it be read -/
structure FlK (K : PySem.W.Frag) (H : Hp) (a C : Addr) (f : Str) (v : V) : Prop where
  fl : Fl H a C f v
  cl : Cls K C
  na : NoAttr K C f
section
variable {K : PySem.W.Frag} {σ : L2.St} {H H' : Hp} {ta tb te tx : TE} {x y z v : V} {a C dx : Addr} {fs : List (Str × V)} {f m : Str}
theorem FlK.mono (e : Ex H H') (h : FlK K H a C f v) : FlK K H' a C f v := ⟨h.fl.mono e, h.cl, h.na⟩
theorem ev_fldK (h : Ev ta σ H (.ref a)) (hf : FlK K H a C f v) : Ev (tFld K ta f) σ H v := ev_fld h hf.fl hf.cl hf.na
theorem atI_mapI {ns : List Int} {i : Int} (h0 : 0 ≤ i) (h1 : i < ns.length) : atI (ns.map V.int) i = some (.int (ns.getD i.toNat 0)) := by
  rw [atI_at (d := V.int 0) h0 (by rw [List.length_map]; exact h1)]
  simp [List.getD]
theorem rng_map {n : Nat} (f : Nat → Int) : (List.range n).map (fun i => V.int (f i)) = ((List.range n).map f).map V.int := by
  rw [List.map_map]; rfl
end
theorem wide_ok {i j : Int} (h : j.natAbs < 2 ^ 60) : CMul i j := .inr (by omega)
local macro_rules | `(tactic| walk_at "ev") => `(tactic| first
  | exact ev_c
  | exact ev_var rfl
  | ((with_reducible show Ev (tCB rMax2 _) _ _ _); exact ev_maxi (by walk_at "ev") (by walk_at "ev"))
  | ((with_reducible show Ev (tCB rMn _) _ _ _); exact ev_min2 (by walk_at "ev") (by walk_at "ev"))
  | ((with_reducible show Ev (tUn _ _) _ _ _); exact ev_un (by walk_at "ev") ru_neg)
  | ((with_reducible show Ev (tFld _ _ _) _ _ _); exact ev_fldK (by walk_at "ev") (by assumption))
  | ((with_reducible show Ev (tOp (rI0 _) _ _) _ _ _); exact ev_op (by walk_at "ev") (by walk_at "ev") rv_I0)
  | ((with_reducible show Ev (tOp rEq _ _) _ _ _); exact ev_op (by walk_at "ev") (by walk_at "ev") (rv_eq rfl))
  | ((with_reducible show Ev (tOp rNe _ _) _ _ _); exact ev_op (by walk_at "ev") (by walk_at "ev") (rv_ne rfl)))

variable {P : Program} {w : World} {K : PySem.W.Frag} {mg : Str → Option Value} {base : Heap} {Z : Ad}
def sp_count_keepable (K : PySem.W.Frag) : Sp := fun vs H Q _ => ∃ (a : Addr) (bs : List Int) (life : Int), vs = [.ref a, .int life] ∧ SqT K H a (bs.map V.int) ∧ 0 < bs.length ∧ bs.length ≤ 24 ∧ 1 ≤ life ∧ life ≤ 30 ∧
  RetL ((keepL bs life).map V.int) H Q
theorem ok_count_keepable (T : Txt K mg Z) : FnOk P w K mg base CX0 1 Z.f_count_keepable Z.d_count_keepable p_count_keepable (sp_count_keepable K) := by
  refine T.F_count_keepable.ok sc_count_keepable (fun vs H Q E h => ?_) (fun cdv Ar outer s H vs Q E hr h => ?_)
  · obtain ⟨a, bs, life, rfl, _⟩ := h
    rfl
  · obtain ⟨a, bs, life, rfl, hS, h0, h1, h2, h3, k⟩ := h
    refine ⟨_, (pss_cons (ps_set (i := 2) sc_count_keepable.nd rfl (Or.inr rfl) (pe_callB (r := rLenS K) (call_len_seq) (by rfl) T.b_len boot_len (pa_cons (pv 0) pa_nil)))
      (pss_one (ps_ret (pe_lc (own := [("at", 3)]) rfl sc_count_keepable.nd (pi_range1 (by rfl) T.b_range (pa_cons (pv 2) pa_nil)) (blkOk_by (own := [("at", 3)]) (N := n_count_keepable) (sc := defScope s_count_keepable) (scope := { kind := PySem.ScopeKind.function, names := [ (PySem.Str.ofString ".0", PySem.NameKind.local), (PySem.Str.ofString "at", PySem.NameKind.cell), (PySem.Str.ofString "sum", PySem.NameKind.globalImplicit), (PySem.Str.ofString "range", PySem.NameKind.globalImplicit), (PySem.Str.ofString "bakes", PySem.NameKind.free), (PySem.Str.ofString "length", PySem.NameKind.free), (PySem.Str.ofString "life", PySem.NameKind.free)], isGenerator := false, isCoroutine := false, more := [] : PySem.Scope }) (by decide +kernel)) (fun _ _ _ _ _ => (pg_name (i := 3) sc_count_keepable.nd rfl (Or.inr rfl))) (fun _ _ _ _ _ => pts_nil) (fun _ _ _ _ _ => (pe_callB (r := rSum K) (cr_sum rfl) (by rfl) T.b_sum boot_sum (pa_cons (pe_lc (own := [("age", 4)]) rfl sc_count_keepable.nd (pi_range1 (by rfl) T.b_range (pa_cons (pe_op op_sub (pv 1) pe_int) pa_nil)) (blkOk_by (own := [("age", 4)]) (N := n_count_keepable) (sc := { kind := PySem.ScopeKind.function, names := [ (PySem.Str.ofString ".0", PySem.NameKind.local), (PySem.Str.ofString "at", PySem.NameKind.cell), (PySem.Str.ofString "sum", PySem.NameKind.globalImplicit), (PySem.Str.ofString "range", PySem.NameKind.globalImplicit), (PySem.Str.ofString "bakes", PySem.NameKind.cell), (PySem.Str.ofString "length", PySem.NameKind.cell), (PySem.Str.ofString "life", PySem.NameKind.cell)], isGenerator := false, isCoroutine := false, more := [] : PySem.Scope }) (scope := { kind := PySem.ScopeKind.function, names := [ (PySem.Str.ofString ".0", PySem.NameKind.local), (PySem.Str.ofString "age", PySem.NameKind.local), (PySem.Str.ofString "at", PySem.NameKind.free), (PySem.Str.ofString "bakes", PySem.NameKind.free), (PySem.Str.ofString "length", PySem.NameKind.free)], isGenerator := false, isCoroutine := false, more := [] : PySem.Scope }) (by decide +kernel)) (fun _ _ _ _ _ => (pg_name (i := 4) sc_count_keepable.nd rfl (Or.inl rfl))) (fun _ _ _ _ _ => pts_nil) (fun _ _ _ _ _ => (pe_ix (r := rIxT K) ix_tup (pv 0) (pe_op op_mod (pe_op op_sub (pv 3) (pv 4)) (pv 2)) (fun _ _ => rfl)))) pa_nil))))))), ?_⟩
    refine q_asg (ev_lenT (ev_var rfl) hS) fun H1 e1 => ?_
    have hS1 := ex_t e1 hS
    have hl : ((bs.map V.int).length : Int) = (bs.length : Int) := by rw [List.length_map]
    rw [hl]
    refine s_retL (xs := (keepL bs life).map V.int) ?_ fun p H2 hp e2 h2 => k p H2 (fresh_back e1 hp) (e1.trans e2) h2
    unfold keepL
    rw [← rng_map]
    refine el_lcR (n := (bs.length : Int)) (fun i => V.int (keepAt bs life i)) (ea_cons (ev_var rfl) ea_nil) ⟨by omega, by omega⟩ (fun _ => rfl) fun i H3 e3 hi => ?_
    unfold keepAt
    refine ev_sumN ?_
    rw [← rng_map]
    refine el_lcR (n := life - 1) _ (ea_cons (by walk_at "ev") ea_nil) ⟨by omega, by omega⟩ (fun _ => rfl) fun j H4 e4 hj => ?_
    have hm0 : 0 ≤ ((i : Int) - (j : Int)) % (bs.length : Int) := Int.emod_nonneg _ (by omega)
    have hm1 : ((i : Int) - (j : Int)) % (bs.length : Int) < (bs.length : Int) := Int.emod_lt_of_pos _ (by omega)
    exact ev_ixT (ev_var rfl) (ex_t (e3.trans e4) hS1) (ev_op (by walk_at "ev") (by walk_at "ev") (rv_I (by show (0 : Int) < _; omega))) (atI_mapI hm0 hm1)
def sp_sum_repeated (K : PySem.W.Frag) : Sp := fun vs H Q _ => ∃ (a : Addr) (am : List Int) (days : Int), vs = [.ref a, .int days] ∧ (SqT K H a (am.map V.int) ∨ SqL K H a (am.map V.int)) ∧ 0 < am.length ∧ am.length ≤ 24 ∧ am.sum.natAbs ≤ 2 ^ 40 ∧
  RetV (.int (sumRep am days)) H Q
theorem ok_sum_repeated (T : Txt K mg Z) : FnOk P w K mg base CX0 1 Z.f_sum_repeated Z.d_sum_repeated p_sum_repeated (sp_sum_repeated K) := by
  refine T.F_sum_repeated.ok sc_sum_repeated (fun vs H Q E h => ?_) (fun cdv Ar outer s H vs Q E hr h => ?_)
  · obtain ⟨a, am, days, rfl, _⟩ := h
    rfl
  · obtain ⟨a, am, days, rfl, hS, h0, h1, h2, k⟩ := h
    have hl : ((am.map V.int).length : Int) = (am.length : Int) := by rw [List.length_map]
    have hd : CDiv days (am.length : Int) := ⟨by omega, by omega⟩
    have hr0 : 0 ≤ days % (am.length : Int) := Int.emod_nonneg _ (by omega)
    have hr : days % (am.length : Int) = (((days % (am.length : Int)).toNat : Nat) : Int) := by omega
    rcases hS with hS | hS
    · refine ⟨_, (pss_cons (ps_asg (pe_callB (r := rDm) (call_divmod) (by rfl) T.b_divmod boot_divmod (pa_cons (pv 1) (pa_cons (pe_callB (r := rLenS K) (call_len_seq) (by rfl) T.b_len boot_len (pa_cons (pv 0) pa_nil)) pa_nil))) (by exact (pg_tupK K (n := 2) rfl rfl (pgs_cons (pg_name (i := 2) sc_sum_repeated.nd rfl (Or.inl rfl)) (pgs_cons (pg_name (i := 3) sc_sum_repeated.nd rfl (Or.inl rfl)) pgs_nil)))))
      (pss_one (ps_ret (pe_op op_add (pe_op op_mul (pv 2) (pe_callB (r := rSumT K) (cr_sumT rfl) (by rfl) T.b_sum boot_sum (pa_cons (pv 0) pa_nil))) (pe_callB (r := rSumT K) (cr_sumT rfl) (by rfl) T.b_sum boot_sum (pa_cons (pe_slice (r := rSlA K) sl_tupA (pv 0) po_none (po_some (pv 3))) pa_nil)))))), ?_⟩
      refine q_pair (eu_dm (ev_var rfl) (Ev.int_eq (ev_lenT (ev_var rfl) hS) hl) hd) fun H1 e1 => ?_
      refine s_ret ?_ fun H2 e2 => k H2 (e1.trans e2)
      refine ev_op (ev_op (ev_var rfl) (ev_sumT (ev_var rfl) (ex_t e1 hS)) (rv_I (wide_ok ?_))) (ev_sumW (ns := am.take (days % (am.length : Int)).toNat) ?_) rv_I0
      · omega
      · rw [List.map_take]
        exact ew_take (ew_of (ev_var rfl) (ex_t e1 hS)) (Ev.int_eq (ev_var rfl) hr)
    · refine ⟨_, (pss_cons (ps_asg (pe_callB (r := rDm) (call_divmod) (by rfl) T.b_divmod boot_divmod (pa_cons (pv 1) (pa_cons (pe_callB (r := rLenS K) (call_len_seq) (by rfl) T.b_len boot_len (pa_cons (pv 0) pa_nil)) pa_nil))) (by exact (pg_tupK K (n := 2) rfl rfl (pgs_cons (pg_name (i := 2) sc_sum_repeated.nd rfl (Or.inl rfl)) (pgs_cons (pg_name (i := 3) sc_sum_repeated.nd rfl (Or.inl rfl)) pgs_nil)))))
      (pss_one (ps_ret (pe_op op_add (pe_op op_mul (pv 2) (pe_callB (r := rSum K) (cr_sum rfl) (by rfl) T.b_sum boot_sum (pa_cons (pv 0) pa_nil))) (pe_callB (r := rSum K) (cr_sum rfl) (by rfl) T.b_sum boot_sum (pa_cons (pe_slice (r := rSlL K) sl_list (pv 0) po_none (po_some (pv 3))) pa_nil)))))), ?_⟩
      refine q_pair (eu_dm (ev_var rfl) (Ev.int_eq (ev_len (ev_var rfl) hS) hl) hd) fun H1 e1 => ?_
      refine s_ret ?_ fun H2 e2 => k H2 (e1.trans e2)
      refine ev_op (ev_op (ev_var rfl) (ev_sumL (ev_var rfl) (ex_l e1 hS)) (rv_I (wide_ok ?_))) (ev_sumM (ns := am.take (days % (am.length : Int)).toNat) ?_) rv_I0
      · omega
      · rw [List.map_take]
        exact EvL.m (el_take (em_of (ev_var rfl) (ex_l e1 hS)) (Ev.int_eq (ev_var rfl) hr))
end Sw
namespace Sw
open PySem PySem.Spec PyProof.Rows L2 Evl
local macro_rules | `(tactic| walk_at "ev") => `(tactic| first
  | exact ev_c
  | exact ev_var rfl
  | ((with_reducible show Ev (tCB rMax2 _) _ _ _); exact ev_maxi (by walk_at "ev") (by walk_at "ev"))
  | ((with_reducible show Ev (tCB rMn _) _ _ _); exact ev_min2 (by walk_at "ev") (by walk_at "ev"))
  | ((with_reducible show Ev (tUn _ _) _ _ _); exact ev_un (by walk_at "ev") ru_neg)
  | ((with_reducible show Ev (tFld _ _ _) _ _ _); exact ev_fldK (by walk_at "ev") (by assumption))
  | ((with_reducible show Ev (tOp (rI0 _) _ _) _ _ _); exact ev_op (by walk_at "ev") (by walk_at "ev") rv_I0)
  | ((with_reducible show Ev (tOp rEq _ _) _ _ _); exact ev_op (by walk_at "ev") (by walk_at "ev") (rv_eq rfl))
  | ((with_reducible show Ev (tOp rNe _ _) _ _ _); exact ev_op (by walk_at "ev") (by walk_at "ev") (rv_ne rfl)))

/-! ### the course: what its object holds -/
def start1 (gain first full : Int) (r : Int) : Int := if r = 0 then 0 else min full (first + (r - 1) * gain)
def missL (ds bs st : List Int) : List Int := (List.range ds.length).map fun i => max 0 (ds.getD i 0 - st.getD i 0 - bs.getD i 0)
def growing (gain first full : Int) : Int := if gain = 0 then 0 else -((first - full) / gain)
/-- bounds of what a bakery is made of -/
structure Good (bs ds : List Int) : Prop where
  n0 : 0 < bs.length
  n1 : bs.length ≤ 24
  ld : ds.length = bs.length
  b0 : ∀ x ∈ bs, 0 ≤ x ∧ x ≤ 1000000000
  d0 : ∀ x ∈ ds, 0 ≤ x ∧ x ≤ 1000000000
structure PR (K : PySem.W.Frag) (Z : Ad) (H : Hp) (c : Addr) (bs ds ks : List Int) (tb td tk : Addr) : Prop where
  fb : FlK K H c Z.c_Course "_bakes" (.ref tb)
  hb : SqT K H tb (bs.map V.int)
  fd : FlK K H c Z.c_Course "_demands" (.ref td)
  hd : SqT K H td (ds.map V.int)
  fk : FlK K H c Z.c_Course "_keepable" (.ref tk)
  hk : SqL K H tk (ks.map V.int)
  nf : NoF H c Z.c_Course "_play_round"
  gd : Good bs ds
  kl : ks.length = bs.length
structure SR (K : PySem.W.Frag) (Z : Ad) (H : Hp) (c : Addr) (bs ds ks : List Int) (tb td tk : Addr) (gain first full : Int) : Prop where
  pr : PR K Z H c bs ds ks tb td tk
  fg : FlK K H c Z.c_Course "_gain" (.int gain)
  ff : FlK K H c Z.c_Course "_first_end" (.int first)
  fu : FlK K H c Z.c_Course "_full_end" (.int full)
  nf : NoF H c Z.c_Course "_stocks_in"
  gb : gain.natAbs < 2 ^ 60
theorem PR.mono {K : PySem.W.Frag} {Z : Ad} {H H' : Hp} {c : Addr} {bs ds ks : List Int} {tb td tk : Addr} (e : Ex H H') (h : PR K Z H c bs ds ks tb td tk) : PR K Z H' c bs ds ks tb td tk :=
  ⟨h.fb.mono e, ex_t e h.hb, h.fd.mono e, ex_t e h.hd, h.fk.mono e, ex_l e h.hk, h.nf.mono e, h.gd, h.kl⟩
theorem SR.mono {K : PySem.W.Frag} {Z : Ad} {H H' : Hp} {c : Addr} {bs ds ks : List Int} {tb td tk : Addr} {gain first full : Int} (e : Ex H H') (h : SR K Z H c bs ds ks tb td tk gain first full) : SR K Z H' c bs ds ks tb td tk gain first full :=
  ⟨h.pr.mono e, h.fg.mono e, h.ff.mono e, h.fu.mono e, h.nf.mono e, h.gb⟩
theorem stkL_get {bs ds ks : List Int} {s : Int} {i : Nat} (h : i ≤ bs.length) : (stkL bs ds ks s).getD i 0 = stkAt bs ds ks s i := by
  unfold stkL
  simp [List.getD, List.getElem?_map, List.getElem?_range (show i < bs.length + 1 by omega)]
theorem stkL_len {bs ds ks : List Int} {s : Int} : (stkL bs ds ks s).length = bs.length + 1 := by simp [stkL]
theorem atI_last {α : Type} {xs : List α} {x : α} : atI (xs ++ [x]) (-1) = some x := by
  have e : ixN (xs ++ [x]).length (-1) = some xs.length := by
    unfold ixN
    rw [List.length_append, List.length_singleton]
    rw [if_neg (by omega), if_pos (by omega)]
    congr 1
    omega
  unfold atI
  rw [e]
  simp
theorem at_map {ns : List Int} {i : Nat} {x : V} (h : (ns.map V.int)[i]? = some x) : x = .int (ns.getD i 0) ∧ i < ns.length := by
  rw [List.getElem?_map] at h
  cases e : ns[i]? with
  | none => rw [e] at h; cases h
  | some z =>
    rw [e] at h
    have hi := (List.getElem?_eq_some_iff.mp e).1
    refine ⟨?_, hi⟩
    simp [List.getD, e] at h ⊢
    exact h.symm
variable {P : Program} {w : World} {K : PySem.W.Frag} {mg : Str → Option Value} {base : Heap} {Z : Ad}
/-! ### _play_round -/
def sp_play (K : PySem.W.Frag) (Z : Ad) : Sp := fun vs H Q _ => ∃ (c : Addr) (bs ds ks : List Int) (tb td tk : Addr) (s : Int), vs = [.ref c, .int s] ∧ PR K Z H c bs ds ks tb td tk ∧ RetL ((stkL bs ds ks s).map V.int) H Q
theorem ok_Course__play_round (T : Txt K mg Z) : FnOk P w K mg base CX0 1 Z.f_Course__play_round Z.d_Course__play_round p_Course__play_round (sp_play K Z) := by
  refine T.F_Course__play_round.ok sc_Course__play_round (fun vs H Q E h => ?_) (fun cdv Ar outer s H vs Q E hr h => ?_)
  · obtain ⟨c, bs, ds, ks, tb, td, tk, s, rfl, _⟩ := h
    rfl
  · obtain ⟨c, bs, ds, ks, tb, td, tk, s, rfl, hP, k⟩ := h
    have fb := hP.fb
    have fd := hP.fd
    have fk := hP.fk
    have hn := hP.gd.n1
    refine ⟨_, (pss_cons (ps_set (i := 2) sc_Course__play_round.nd rfl (Or.inl rfl) (pe_lst (pa_cons (pv 1) pa_nil)))
      (pss_cons (ps_for PassesOwn.never rfl (pi_zip3 (by rfl) T.b_zip (pa_cons (pe_fldK K rfl (pv 0) rfl) (pa_cons (pe_fldK K rfl (pv 0) rfl) (pa_cons (pe_fldK K rfl (pv 0) rfl) pa_nil)))) (by exact (pg_tupK K (n := 3) rfl rfl (pgs_cons (pg_name (i := 3) sc_Course__play_round.nd rfl (Or.inl rfl)) (pgs_cons (pg_name (i := 4) sc_Course__play_round.nd rfl (Or.inl rfl)) (pgs_cons (pg_name (i := 5) sc_Course__play_round.nd rfl (Or.inl rfl)) pgs_nil))))) (pss_cons (ps_set (i := 6) sc_Course__play_round.nd rfl (Or.inl rfl) (pe_callB (r := rMax2) (call_max2 rfl) (by rfl) T.b_max boot_max (pa_cons pe_int (pa_cons (pe_op op_sub (pe_op op_add (pe_ix (r := rIxL K) ix_list (pv 2) (pe_un un_neg pe_int) (fun _ _ => rfl)) (pv 3)) (pv 4)) pa_nil))))
      (pss_one (ps_expr (pe_bm PySem.F.plainAttrs_list PySem.F.slot_list_append PySem.F.type_list_append mt_append (pv 2) (pa_cons (pe_callB (r := rMn) (call_min2 rfl) (by rfl) T.b_min boot_min (pa_cons (pv 6) (pa_cons (pv 5) pa_nil))) pa_nil))))))
      (pss_one (ps_ret (pv 2))))), ?_⟩
    refine q_asgL (xs := [.int s]) (el_lst (ea_cons (ev_var rfl) ea_nil) (by show 1 ≤ 100000; decide)) fun p H1 hp e1 h1 => ?_
    refine q_forZ3 (n := bs.length) (G := H) (ea_cons (Ev.mono e1 (by walk_at "ev")) (ea_cons (Ev.mono e1 (by walk_at "ev")) (ea_cons (Ev.mono e1 (by walk_at "ev")) ea_nil))) e1 hP.hb hP.hd hP.hk (by simp) (by simp [hP.gd.ld]) (by simp [hP.kl])
      (fun i σ' H' => (∃ a b c' d, σ' = [some (.ref c), some (.int s), some (.ref p), a, b, c', d]) ∧ Ex H H' ∧ H' p = some (.lst (((List.range (i + 1)).map (stkAt bs ds ks s)).map V.int))) ?_ ?_ ?_ ?_
    · intro H2 e2
      exact ⟨⟨_, _, _, _, rfl⟩, e1.trans e2, e2 p _ h1⟩
    · intro i σ' H' _ p
      exact p.2.1
    · rintro i x y z σ' H' hx hy hz ⟨⟨_, _, _, _, rfl⟩, e2, h2⟩ H3 e3
      obtain ⟨rfl, hi⟩ := at_map hx
      obtain ⟨rfl, _⟩ := at_map hy
      obtain ⟨rfl, _⟩ := at_map hz
      have h3 := e3 p _ h2
      have hlast : ((List.range (i + 1)).map (stkAt bs ds ks s)).map V.int = ((List.range i).map (stkAt bs ds ks s)).map V.int ++ [V.int (stkAt bs ds ks s i)] := by
        rw [List.range_succ, List.map_append, List.map_append]; rfl
      refine q_asg (ev_maxi ev_c (ev_op (ev_op (ev_ixL (v := .int (stkAt bs ds ks s i)) (ev_var rfl) (sq_of h3) (by walk_at "ev") (by rw [hlast]; exact atI_last)) (ev_var rfl) rv_I0) (ev_var rfl) rv_I0)) fun H4 e4 => ?_
      refine s_app (e4 p _ h3) (ev_var rfl) (by walk_at "ev") (by simp; omega) fun H5 e5 => ?_
      refine ⟨⟨_, _, _, _, rfl⟩, Ex.mut (((e2.trans e3).trans e4).trans e5) hp, ?_⟩
      rw [upd_same, List.range_succ (n := i + 1), List.map_append, List.map_append]
      rfl
    · rintro σ' H' ⟨⟨_, _, _, _, rfl⟩, e2, h2⟩
      exact s_ret (ev_var rfl) fun H3 e3 => k p H3 hp (e2.trans e3) (e3 p _ h2)
end Sw
namespace Sw
open PySem PySem.Spec PyProof.Rows L2 Evl
local macro_rules | `(tactic| walk_at "ev") => `(tactic| first
  | exact ev_c
  | exact ev_var rfl
  | ((with_reducible show Ev (tCB rMax2 _) _ _ _); exact ev_maxi (by walk_at "ev") (by walk_at "ev"))
  | ((with_reducible show Ev (tCB rMn _) _ _ _); exact ev_min2 (by walk_at "ev") (by walk_at "ev"))
  | ((with_reducible show Ev (tUn _ _) _ _ _); exact ev_un (by walk_at "ev") ru_neg)
  | ((with_reducible show Ev (tFld _ _ _) _ _ _); exact ev_fldK (by walk_at "ev") (by assumption))
  | ((with_reducible show Ev (tOp (rI0 _) _ _) _ _ _); exact ev_op (by walk_at "ev") (by walk_at "ev") rv_I0)
  | ((with_reducible show Ev (tOp rEq _ _) _ _ _); exact ev_op (by walk_at "ev") (by walk_at "ev") (rv_eq rfl))
  | ((with_reducible show Ev (tOp rNe _ _) _ _ _); exact ev_op (by walk_at "ev") (by walk_at "ev") (rv_ne rfl)))

/-- a promise's uses -/
theorem spl_play {K : PySem.W.Frag} {Z : Ad} {H : Hp} {c : Addr} {bs ds ks : List Int} {tb td tk : Addr} {s : Int} (h : PR K Z H c bs ds ks tb td tk) : SpL (sp_play K Z) [.ref c, .int s] H ((stkL bs ds ks s).map V.int) :=
  fun _ e _ q _ => ⟨c, bs, ds, ks, tb, td, tk, s, rfl, h.mono e, q⟩
def sp_stocks (K : PySem.W.Frag) (Z : Ad) : Sp := fun vs H Q _ => ∃ (c : Addr) (bs ds ks : List Int) (tb td tk : Addr) (gain first full r : Int), vs = [.ref c, .int r] ∧ SR K Z H c bs ds ks tb td tk gain first full ∧ RetL ((stkL bs ds ks (start1 gain first full r)).map V.int) H Q
theorem spl_stocks {K : PySem.W.Frag} {Z : Ad} {H : Hp} {c : Addr} {bs ds ks : List Int} {tb td tk : Addr} {gain first full r : Int} (h : SR K Z H c bs ds ks tb td tk gain first full) :
    SpL (sp_stocks K Z) [.ref c, .int r] H ((stkL bs ds ks (start1 gain first full r)).map V.int) :=
  fun _ e _ q _ => ⟨c, bs, ds, ks, tb, td, tk, gain, first, full, r, rfl, h.mono e, q⟩
variable {P : Program} {w : World} {K : PySem.W.Frag} {mg : Str → Option Value} {base : Heap} {Z : Ad}
theorem ok_Course__stocks_in (T : Txt K mg Z) : FnOk P w K mg base CX0 2 Z.f_Course__stocks_in Z.d_Course__stocks_in p_Course__stocks_in (sp_stocks K Z) := by
  refine T.F_Course__stocks_in.ok sc_Course__stocks_in (fun vs H Q E h => ?_) (fun cdv Ar outer s H vs Q E hr h => ?_)
  · obtain ⟨c, bs, ds, ks, tb, td, tk, gain, first, full, r, rfl, _⟩ := h
    rfl
  · obtain ⟨c, bs, ds, ks, tb, td, tk, gain, first, full, r, rfl, hS, k⟩ := h
    have hP := hS.pr
    refine ⟨_, (pss_cons (ps_if (pt_cmpR op_eq (pv 1) pe_int (nomark _)) (pss_one (ps_ret (pe_meth (pv 0) T.cl_Course T.m_Course__play_round (ok_Course__play_round T) (hr.mono (by decide)) T.b_Course__play_round .nil pass0 (pa_cons pe_int pa_nil)))) pss_nil)
      (pss_cons (ps_set (i := 2) sc_Course__stocks_in.nd rfl (Or.inl rfl) (pe_callB (r := rMn) (call_min2 rfl) (by rfl) T.b_min boot_min (pa_cons (pe_fldK K rfl (pv 0) rfl) (pa_cons (pe_op op_add (pe_fldK K rfl (pv 0) rfl) (pe_op op_mul (pe_op op_sub (pv 1) pe_int) (pe_fldK K rfl (pv 0) rfl))) pa_nil))))
      (pss_one (ps_ret (pe_meth (pv 0) T.cl_Course T.m_Course__play_round (ok_Course__play_round T) (hr.mono (by decide)) T.b_Course__play_round .nil pass0 (pa_cons (pv 2) pa_nil)))))), ?_⟩
    refine q_when (et_test (by walk_at "ev")) (fun hb H1 e1 => ?_) (fun hb H1 e1 => ?_)
    · have hr0 : r = 0 := by simpa using hb
      refine s_retL (el_meth (ev_var rfl) (hP.nf.mono e1) (ea_cons ev_c ea_nil) (spl_play (s := 0) (hP.mono e1))) fun p H2 hp e2 h2 => ?_
      refine k p H2 (fresh_back e1 hp) (e1.trans e2) ?_
      rw [h2]
      unfold start1
      rw [if_pos hr0]
    · have hr0 : ¬ r = 0 := by simpa using hb
      have fg := hS.fg.mono e1
      have ff := hS.ff.mono e1
      have fu := hS.fu.mono e1
      refine q_asg (ev_min2 (by walk_at "ev") (ev_op (by walk_at "ev") (ev_op (by walk_at "ev") (by walk_at "ev") (rv_I (wide_ok hS.gb))) rv_I0)) fun H2 e2 => ?_
      refine s_retL (el_meth (ev_var rfl) (hP.nf.mono (e1.trans e2)) (ea_cons (ev_var rfl) ea_nil) (spl_play (hP.mono (e1.trans e2)))) fun p H3 hp e3 h3 => ?_
      refine k p H3 (fresh_back (e1.trans e2) hp) ((e1.trans e2).trans e3) ?_
      rw [h3]
      unfold start1
      rw [if_neg hr0]
/-- what a course tells -/
def stockI (bs ds ks : List Int) (gain first full day : Int) : Int := stkAt bs ds ks (start1 gain first full (day / (bs.length : Int))) (day % (bs.length : Int)).toNat
structure SM (K : PySem.W.Frag) (Z : Ad) (H : Hp) (c : Addr) (bs ds ks : List Int) (tb td tk : Addr) (gain first full : Int) : Prop where
  sr : SR K Z H c bs ds ks tb td tk gain first full
  nm : NoF H c Z.c_Course "_misses_in"
theorem SM.mono {K : PySem.W.Frag} {Z : Ad} {H H' : Hp} {c : Addr} {bs ds ks : List Int} {tb td tk : Addr} {gain first full : Int} (e : Ex H H') (h : SM K Z H c bs ds ks tb td tk gain first full) : SM K Z H' c bs ds ks tb td tk gain first full := ⟨h.sr.mono e, h.nm.mono e⟩
def sp_misses (K : PySem.W.Frag) (Z : Ad) : Sp := fun vs H Q _ => ∃ (c : Addr) (bs ds ks : List Int) (tb td tk : Addr) (gain first full r : Int), vs = [.ref c, .int r] ∧ SR K Z H c bs ds ks tb td tk gain first full ∧ RetL ((missL ds bs (stkL bs ds ks (start1 gain first full r))).map V.int) H Q
theorem spl_misses {K : PySem.W.Frag} {Z : Ad} {H : Hp} {c : Addr} {bs ds ks : List Int} {tb td tk : Addr} {gain first full r : Int} (h : SR K Z H c bs ds ks tb td tk gain first full) :
    SpL (sp_misses K Z) [.ref c, .int r] H ((missL ds bs (stkL bs ds ks (start1 gain first full r))).map V.int) :=
  fun _ e _ q _ => ⟨c, bs, ds, ks, tb, td, tk, gain, first, full, r, rfl, h.mono e, q⟩
theorem ok_Course__misses_in (T : Txt K mg Z) : FnOk P w K mg base CX0 3 Z.f_Course__misses_in Z.d_Course__misses_in p_Course__misses_in (sp_misses K Z) := by
  refine T.F_Course__misses_in.ok sc_Course__misses_in (fun vs H Q E h => ?_) (fun cdv Ar outer s H vs Q E hr h => ?_)
  · obtain ⟨c, bs, ds, ks, tb, td, tk, gain, first, full, r, rfl, _⟩ := h
    rfl
  · obtain ⟨c, bs, ds, ks, tb, td, tk, gain, first, full, r, rfl, hS, k⟩ := h
    have hP := hS.pr
    have hn := hP.gd.n1
    have hl := hP.gd.ld
    refine ⟨_, (pss_cons (ps_set (i := 2) sc_Course__misses_in.nd rfl (Or.inr rfl) (pe_meth (pv 0) T.cl_Course T.m_Course__stocks_in (ok_Course__stocks_in T) (hr.mono (by decide)) T.b_Course__stocks_in .nil pass0 (pa_cons (pv 1) pa_nil)))
      (pss_one (ps_ret (pe_lc (own := [("at", 3), ("demand", 4)]) rfl sc_Course__misses_in.nd (pi_enumTK K rfl (by rfl) T.b_enumerate (pa_cons (pe_fldK K rfl (pv 0) rfl) pa_nil)) (blkOk_by (own := [("at", 3), ("demand", 4)]) (N := n_Course__misses_in) (sc := defScope s_Course__misses_in) (scope := { kind := PySem.ScopeKind.function, names := [ (PySem.Str.ofString ".0", PySem.NameKind.local), (PySem.Str.ofString "at", PySem.NameKind.local), (PySem.Str.ofString "demand", PySem.NameKind.local), (PySem.Str.ofString "max", PySem.NameKind.globalImplicit), (PySem.Str.ofString "self", PySem.NameKind.free), (PySem.Str.ofString "stocks", PySem.NameKind.free)], isGenerator := false, isCoroutine := false, more := [] : PySem.Scope }) (by decide +kernel)) (fun _ _ _ _ _ => (by exact (pg_tupK K (n := 2) rfl rfl (pgs_cons (pg_name (i := 3) sc_Course__misses_in.nd rfl (Or.inl rfl)) (pgs_cons (pg_name (i := 4) sc_Course__misses_in.nd rfl (Or.inl rfl)) pgs_nil))))) (fun _ _ _ _ _ => pts_nil) (fun _ _ _ _ _ => (pe_callB (r := rMax2) (call_max2 rfl) (by rfl) T.b_max boot_max (pa_cons pe_int (pa_cons (pe_op op_sub (pe_op op_sub (pv 4) (pe_ix (r := rIxL K) ix_list (pv 2) (pv 3) (fun _ _ => rfl))) (pe_ix (r := rIxT K) ix_tup (pe_fldK K rfl (pv 0) rfl) (pv 3) (fun _ _ => rfl))) pa_nil)))))))), ?_⟩
    refine q_asgL (el_meth (ev_var rfl) hS.nf (ea_cons (ev_var rfl) ea_nil) (spl_stocks hS)) fun p H1 hp e1 h1 => ?_
    have hP1 := hP.mono e1
    have fb := hP1.fb
    have fd := hP1.fd
    refine s_retL (xs := (missL ds bs (stkL bs ds ks (start1 gain first full r))).map V.int) ?_ fun q H2 hq e2 h2 => k q H2 (fresh_back e1 hq) (e1.trans e2) h2
    unfold missL
    rw [← rng_map]
    have hdl : (ds.map V.int).length = ds.length := by rw [List.length_map]
    rw [← hdl]
    refine el_lcEnT _ (ea_cons (by walk_at "ev") ea_nil) hP1.hd (by rw [hdl]; omega) (fun _ _ => rfl) fun i x H3 e3 hx => ?_
    obtain ⟨rfl, hi⟩ := at_map hx
    have fb3 := fb.mono e3
    refine ev_maxi ev_c (ev_op (ev_op (ev_var rfl) (ev_ixL (ev_var rfl) (sq_of (e3 p _ h1)) (ev_var rfl) (atI_mapI (i := (i : Int)) (by omega) (by rw [stkL_len]; omega))) rv_I0) (ev_ixT (by walk_at "ev") (ex_t e3 hP1.hb) (ev_var rfl) (atI_mapI (i := (i : Int)) (by omega) (by omega))) rv_I0)
def sp_growing (K : PySem.W.Frag) (Z : Ad) : Sp := fun vs H Q _ => ∃ (c : Addr) (bs ds ks : List Int) (tb td tk : Addr) (gain first full : Int), vs = [.ref c] ∧ SR K Z H c bs ds ks tb td tk gain first full ∧ 0 ≤ gain ∧ RetV (.int (growing gain first full)) H Q
theorem ok_Course__count_growing (T : Txt K mg Z) : FnOk P w K mg base CX0 1 Z.f_Course__count_growing Z.d_Course__count_growing p_Course__count_growing (sp_growing K Z) := by
  refine T.F_Course__count_growing.ok sc_Course__count_growing (fun vs H Q E h => ?_) (fun cdv Ar outer s H vs Q E hr h => ?_)
  · obtain ⟨c, bs, ds, ks, tb, td, tk, gain, first, full, rfl, _⟩ := h
    rfl
  · obtain ⟨c, bs, ds, ks, tb, td, tk, gain, first, full, rfl, hS, hg, k⟩ := h
    have fg := hS.fg
    refine ⟨_, (pss_cons (ps_if (pt_cmpR op_eq (pe_fldK K rfl (pv 0) rfl) pe_int (nomark _)) (pss_one (ps_ret pe_int)) pss_nil)
      (pss_one (ps_ret (pe_un un_neg (pe_op op_fdivW (pe_op op_sub (pe_fldK K rfl (pv 0) rfl) (pe_fldK K rfl (pv 0) rfl)) (pe_fldK K rfl (pv 0) rfl)))))), ?_⟩
    refine q_when (et_test (by walk_at "ev")) (fun hb H1 e1 => ?_) (fun hb H1 e1 => ?_)
    · have hr0 : gain = 0 := by simpa using hb
      refine s_ret ev_c fun H2 e2 => ?_
      have z := k H2 (e1.trans e2)
      unfold growing at z
      rw [if_pos hr0] at z
      exact z
    · have hr0 : ¬ gain = 0 := by simpa using hb
      have fg := hS.fg.mono e1
      have ff := hS.ff.mono e1
      have fu := hS.fu.mono e1
      refine s_ret (ev_un (ev_op (by walk_at "ev") (by walk_at "ev") (rv_I (wide_div (by omega) hS.gb (by decide) (by decide)))) ru_neg) fun H2 e2 => ?_
      have z := k H2 (e1.trans e2)
      unfold growing at z
      rw [if_neg hr0] at z
      exact z
def sp_stock_at (K : PySem.W.Frag) (Z : Ad) : Sp := fun vs H Q _ => ∃ (c : Addr) (bs ds ks : List Int) (tb td tk : Addr) (gain first full day : Int), vs = [.ref c, .int day] ∧ SR K Z H c bs ds ks tb td tk gain first full ∧ RetV (.int (stockI bs ds ks gain first full day)) H Q
theorem spv_stock_at {K : PySem.W.Frag} {Z : Ad} {H : Hp} {c : Addr} {bs ds ks : List Int} {tb td tk : Addr} {gain first full day : Int} (h : SR K Z H c bs ds ks tb td tk gain first full) :
    SpV (sp_stock_at K Z) [.ref c, .int day] H (.int (stockI bs ds ks gain first full day)) :=
  fun _ e _ q _ => ⟨c, bs, ds, ks, tb, td, tk, gain, first, full, day, rfl, h.mono e, q⟩
theorem getD_map {ns : List Int} {i : Nat} : (ns.map V.int).getD i (V.int 0) = V.int (ns.getD i 0) := by
  simp [List.getD]
theorem ok_Course_stock_at (T : Txt K mg Z) : FnOk P w K mg base CX0 3 Z.f_Course_stock_at Z.d_Course_stock_at p_Course_stock_at (sp_stock_at K Z) := by
  refine T.F_Course_stock_at.ok sc_Course_stock_at (fun vs H Q E h => ?_) (fun cdv Ar outer s H vs Q E hr h => ?_)
  · obtain ⟨c, bs, ds, ks, tb, td, tk, gain, first, full, day, rfl, _⟩ := h
    rfl
  · obtain ⟨c, bs, ds, ks, tb, td, tk, gain, first, full, day, rfl, hS, k⟩ := h
    have hP := hS.pr
    have fb := hP.fb
    have h0 := hP.gd.n0
    have h1 := hP.gd.n1
    have hl : ((bs.map V.int).length : Int) = (bs.length : Int) := by rw [List.length_map]
    have hr0 : 0 ≤ day % (bs.length : Int) := Int.emod_nonneg _ (by omega)
    have hr1 : day % (bs.length : Int) < (bs.length : Int) := Int.emod_lt_of_pos _ (by omega)
    refine ⟨_, (pss_cons (ps_asg (pe_callB (r := rDm) (call_divmod) (by rfl) T.b_divmod boot_divmod (pa_cons (pv 1) (pa_cons (pe_callB (r := rLenS K) (call_len_seq) (by rfl) T.b_len boot_len (pa_cons (pe_fldK K rfl (pv 0) rfl) pa_nil)) pa_nil))) (by exact (pg_tupK K (n := 2) rfl rfl (pgs_cons (pg_name (i := 2) sc_Course_stock_at.nd rfl (Or.inl rfl)) (pgs_cons (pg_name (i := 3) sc_Course_stock_at.nd rfl (Or.inl rfl)) pgs_nil)))))
      (pss_one (ps_ret (pe_ix (r := rIxL K) ix_list (pe_meth (pv 0) T.cl_Course T.m_Course__stocks_in (ok_Course__stocks_in T) (hr.mono (by decide)) T.b_Course__stocks_in .nil pass0 (pa_cons (pv 2) pa_nil)) (pv 3) (fun _ _ => rfl))))), ?_⟩
    refine q_pair (eu_dm (ev_var rfl) (Ev.int_eq (ev_lenT (by walk_at "ev") hP.hb) hl) ⟨by omega, by omega⟩) fun H1 e1 => ?_
    refine s_ret (ev_ixNL (el_meth (ev_var rfl) (hS.nf.mono e1) (ea_cons (ev_var rfl) ea_nil) (spl_stocks (hS.mono e1))) (ev_var rfl) (atI_mapI hr0 (by rw [stkL_len]; omega))) fun H2 e2 => ?_
    have z := k H2 (e1.trans e2)
    rw [stkL_get (by omega)]
    exact z
/-- a day's sales: sold, missed, thrown -/
def soldI (bs ds ks : List Int) (gain first full day : Int) : Int := min (stockI bs ds ks gain first full day + bs.getD (day % (bs.length : Int)).toNat 0) (ds.getD (day % (bs.length : Int)).toNat 0)
def endI (bs ds ks : List Int) (gain first full day : Int) : Int := stkAt bs ds ks (start1 gain first full (day / (bs.length : Int))) ((day % (bs.length : Int)).toNat + 1)
def salesI (bs ds ks : List Int) (gain first full day : Int) : List Int :=
  [soldI bs ds ks gain first full day, ds.getD (day % (bs.length : Int)).toNat 0 - soldI bs ds ks gain first full day,
   stockI bs ds ks gain first full day + bs.getD (day % (bs.length : Int)).toNat 0 - soldI bs ds ks gain first full day - endI bs ds ks gain first full day]
def sp_sales_on (K : PySem.W.Frag) (Z : Ad) : Sp := fun vs H Q _ => ∃ (c : Addr) (bs ds ks : List Int) (tb td tk : Addr) (gain first full day : Int), vs = [.ref c, .int day] ∧ SR K Z H c bs ds ks tb td tk gain first full ∧ RetU ((salesI bs ds ks gain first full day).map V.int) H Q
theorem spu_sales_on {K : PySem.W.Frag} {Z : Ad} {H : Hp} {c : Addr} {bs ds ks : List Int} {tb td tk : Addr} {gain first full day : Int} (h : SR K Z H c bs ds ks tb td tk gain first full) :
    SpU (sp_sales_on K Z) [.ref c, .int day] H ((salesI bs ds ks gain first full day).map V.int) :=
  fun _ e _ q _ => ⟨c, bs, ds, ks, tb, td, tk, gain, first, full, day, rfl, h.mono e, q⟩
theorem ok_Course_sales_on (T : Txt K mg Z) : FnOk P w K mg base CX0 3 Z.f_Course_sales_on Z.d_Course_sales_on p_Course_sales_on (sp_sales_on K Z) := by
  refine T.F_Course_sales_on.ok sc_Course_sales_on (fun vs H Q E h => ?_) (fun cdv Ar outer s H vs Q E hr h => ?_)
  · obtain ⟨c, bs, ds, ks, tb, td, tk, gain, first, full, day, rfl, _⟩ := h
    rfl
  · obtain ⟨c, bs, ds, ks, tb, td, tk, gain, first, full, day, rfl, hS, k⟩ := h
    have hP := hS.pr
    have fb := hP.fb
    have h0 := hP.gd.n0
    have h1 := hP.gd.n1
    have hld := hP.gd.ld
    have hl : ((bs.map V.int).length : Int) = (bs.length : Int) := by rw [List.length_map]
    have hr0 : 0 ≤ day % (bs.length : Int) := Int.emod_nonneg _ (by omega)
    have hr1 : day % (bs.length : Int) < (bs.length : Int) := Int.emod_lt_of_pos _ (by omega)
    refine ⟨_, (pss_cons (ps_asg (pe_callB (r := rDm) (call_divmod) (by rfl) T.b_divmod boot_divmod (pa_cons (pv 1) (pa_cons (pe_callB (r := rLenS K) (call_len_seq) (by rfl) T.b_len boot_len (pa_cons (pe_fldK K rfl (pv 0) rfl) pa_nil)) pa_nil))) (by exact (pg_tupK K (n := 2) rfl rfl (pgs_cons (pg_name (i := 2) sc_Course_sales_on.nd rfl (Or.inl rfl)) (pgs_cons (pg_name (i := 3) sc_Course_sales_on.nd rfl (Or.inl rfl)) pgs_nil)))))
      (pss_cons (ps_set (i := 4) sc_Course_sales_on.nd rfl (Or.inl rfl) (pe_meth (pv 0) T.cl_Course T.m_Course__stocks_in (ok_Course__stocks_in T) (hr.mono (by decide)) T.b_Course__stocks_in .nil pass0 (pa_cons (pv 2) pa_nil)))
      (pss_cons (ps_set (i := 5) sc_Course_sales_on.nd rfl (Or.inl rfl) (pe_op op_add (pe_ix (r := rIxL K) ix_list (pv 4) (pv 3) (fun _ _ => rfl)) (pe_ix (r := rIxT K) ix_tup (pe_fldK K rfl (pv 0) rfl) (pv 3) (fun _ _ => rfl))))
      (pss_cons (ps_set (i := 6) sc_Course_sales_on.nd rfl (Or.inl rfl) (pe_callB (r := rMn) (call_min2 rfl) (by rfl) T.b_min boot_min (pa_cons (pv 5) (pa_cons (pe_ix (r := rIxT K) ix_tup (pe_fldK K rfl (pv 0) rfl) (pv 3) (fun _ _ => rfl)) pa_nil))))
      (pss_one (ps_ret (pe_tup (pa_cons (pv 6) (pa_cons (pe_op op_sub (pe_ix (r := rIxT K) ix_tup (pe_fldK K rfl (pv 0) rfl) (pv 3) (fun _ _ => rfl)) (pv 6)) (pa_cons (pe_op op_sub (pe_op op_sub (pv 5) (pv 6)) (pe_ix (r := rIxL K) ix_list (pv 4) (pe_op op_add (pv 3) pe_int) (fun _ _ => rfl))) pa_nil)))))))))), ?_⟩
    refine q_pair (eu_dm (ev_var rfl) (Ev.int_eq (ev_lenT (by walk_at "ev") hP.hb) hl) ⟨by omega, by omega⟩) fun H1 e1 => ?_
    refine q_asgL (el_meth (ev_var rfl) (hS.nf.mono e1) (ea_cons (ev_var rfl) ea_nil) (spl_stocks (hS.mono e1))) fun p H2 hp e2 h2 => ?_
    have hP2 := hP.mono (e1.trans e2)
    have fb := hP2.fb
    have fd := hP2.fd
    refine q_asg (ev_op (ev_ixL (ev_var rfl) (sq_of h2) (ev_var rfl) (atI_mapI hr0 (by rw [stkL_len]; omega))) (ev_ixT (by walk_at "ev") hP2.hb (ev_var rfl) (atI_mapI hr0 hr1)) rv_I0) fun H3 e3 => ?_
    have fd3 := fd.mono e3
    refine q_asg (ev_min2 (ev_var rfl) (ev_ixT (by walk_at "ev") (ex_t e3 hP2.hd) (ev_var rfl) (atI_mapI hr0 (by omega)))) fun H4 e4 => ?_
    have fd4 := fd3.mono e4
    have ht : (day % (bs.length : Int) + 1).toNat = (day % (bs.length : Int)).toNat + 1 := by omega
    refine s_retU (eu_tup (ea_cons (ev_var rfl) (ea_cons (ev_op (ev_ixT (by walk_at "ev") (ex_t (e3.trans e4) hP2.hd) (ev_var rfl) (atI_mapI hr0 (by omega))) (ev_var rfl) rv_I0) (ea_cons (ev_op (ev_op (ev_var rfl) (ev_var rfl) rv_I0) (ev_ixL (ev_var rfl) (sq_of (e4 p _ (e3 p _ h2))) (by walk_at "ev") (atI_mapI (by omega) (by rw [stkL_len]; omega))) rv_I0) ea_nil))) (by show 3 ≤ 100000; decide)) fun q H5 hq e5 h5 => ?_
    refine k q H5 (fresh_back ((e1.trans e2).trans (e3.trans e4)) hq) (((e1.trans e2).trans (e3.trans e4)).trans e5) ?_
    rw [h5, ht, stkL_get (by omega), stkL_get (by omega)]
    rfl
end Sw
namespace Sw
open PySem PySem.Spec PyProof.Rows L2 Evl
local macro_rules | `(tactic| walk_at "ev") => `(tactic| first
  | exact ev_c
  | exact ev_var rfl
  | ((with_reducible show Ev (tCB rMax2 _) _ _ _); exact ev_maxi (by walk_at "ev") (by walk_at "ev"))
  | ((with_reducible show Ev (tCB rMn _) _ _ _); exact ev_min2 (by walk_at "ev") (by walk_at "ev"))
  | ((with_reducible show Ev (tUn _ _) _ _ _); exact ev_un (by walk_at "ev") ru_neg)
  | ((with_reducible show Ev (tFld _ _ _) _ _ _); exact ev_fldK (by walk_at "ev") (by assumption))
  | ((with_reducible show Ev (tOp (rI0 _) _ _) _ _ _); exact ev_op (by walk_at "ev") (by walk_at "ev") rv_I0)
  | ((with_reducible show Ev (tOp rEq _ _) _ _ _); exact ev_op (by walk_at "ev") (by walk_at "ev") (rv_eq rfl))
  | ((with_reducible show Ev (tOp rNe _ _) _ _ _); exact ev_op (by walk_at "ev") (by walk_at "ev") (rv_ne rfl)))

/-! ### find_settled, sum_settled_round, sales_before -/
structure FS (K : PySem.W.Frag) (Z : Ad) (H : Hp) (c : Addr) (bs ds ks : List Int) (tb td tk : Addr) (gain first full : Int) : Prop where
  sr : SR K Z H c bs ds ks tb td tk gain first full
  ng : NoF H c Z.c_Course "_count_growing"
theorem FS.mono {K : PySem.W.Frag} {Z : Ad} {H H' : Hp} {c : Addr} {bs ds ks : List Int} {tb td tk : Addr} {gain first full : Int} (e : Ex H H') (h : FS K Z H c bs ds ks tb td tk gain first full) : FS K Z H' c bs ds ks tb td tk gain first full := ⟨h.sr.mono e, h.ng.mono e⟩
/-- the first day of the round behind the growing ones that is as a round later -/
def SetAt (bs ds ks : List Int) (gain first full : Int) (i : Nat) : Prop := i ≤ bs.length ∧
  stkAt bs ds ks (start1 gain first full (growing gain first full)) i = stkAt bs ds ks (start1 gain first full (growing gain first full + 1)) i ∧
  ∀ j, j < i → stkAt bs ds ks (start1 gain first full (growing gain first full)) j ≠ stkAt bs ds ks (start1 gain first full (growing gain first full + 1)) j
def sp_settled (K : PySem.W.Frag) (Z : Ad) : Sp := fun vs H Q _ => ∃ (c : Addr) (bs ds ks : List Int) (tb td tk : Addr) (gain first full : Int) (i : Nat), vs = [.ref c] ∧ FS K Z H c bs ds ks tb td tk gain first full ∧ 0 ≤ gain ∧ SetAt bs ds ks gain first full i ∧
  RetV (.int (growing gain first full * (bs.length : Int) + (i : Int))) H Q
theorem spv_growing {K : PySem.W.Frag} {Z : Ad} {H : Hp} {c : Addr} {bs ds ks : List Int} {tb td tk : Addr} {gain first full : Int} (h : SR K Z H c bs ds ks tb td tk gain first full) (hg : 0 ≤ gain) :
    SpV (sp_growing K Z) [.ref c] H (.int (growing gain first full)) := fun _ e _ q _ => ⟨c, bs, ds, ks, tb, td, tk, gain, first, full, rfl, h.mono e, hg, q⟩
variable {P : Program} {w : World} {K : PySem.W.Frag} {mg : Str → Option Value} {base : Heap} {Z : Ad}
theorem ok_Course_find_settled (T : Txt K mg Z) : FnOk P w K mg base CX0 3 Z.f_Course_find_settled Z.d_Course_find_settled p_Course_find_settled (sp_settled K Z) := by
  refine T.F_Course_find_settled.ok sc_Course_find_settled (fun vs H Q E h => ?_) (fun cdv Ar outer s H vs Q E hr h => ?_)
  · obtain ⟨c, bs, ds, ks, tb, td, tk, gain, first, full, i, rfl, _⟩ := h
    rfl
  · obtain ⟨c, bs, ds, ks, tb, td, tk, gain, first, full, i, rfl, hF, hg, hi, k⟩ := h
    have hS := hF.sr
    have hP := hS.pr
    have hn := hP.gd.n1
    refine ⟨_, (pss_cons (ps_set (i := 1) sc_Course_find_settled.nd rfl (Or.inl rfl) (pe_meth0 (pv 0) T.cl_Course T.m_Course__count_growing (ok_Course__count_growing T) (hr.mono (by decide)) T.b_Course__count_growing .nil pass0))
      (pss_cons (ps_set (i := 2) sc_Course_find_settled.nd rfl (Or.inl rfl) (pe_meth (pv 0) T.cl_Course T.m_Course__stocks_in (ok_Course__stocks_in T) (hr.mono (by decide)) T.b_Course__stocks_in .nil pass0 (pa_cons (pv 1) pa_nil)))
      (pss_cons (ps_set (i := 3) sc_Course_find_settled.nd rfl (Or.inl rfl) (pe_meth (pv 0) T.cl_Course T.m_Course__stocks_in (ok_Course__stocks_in T) (hr.mono (by decide)) T.b_Course__stocks_in .nil pass0 (pa_cons (pe_op op_add (pv 1) pe_int) pa_nil)))
      (pss_cons (ps_set (i := 4) sc_Course_find_settled.nd rfl (Or.inl rfl) pe_int)
      (pss_cons (ps_while PassesOwn.never (pt_cmpR op_ne (pe_ix (r := rIxL K) ix_list (pv 2) (pv 4) (fun _ _ => rfl)) (pe_ix (r := rIxL K) ix_list (pv 3) (pv 4) (fun _ _ => rfl)) (nomark _)) (pss_one (ps_aug (i := 4) sc_Course_find_settled.nd rfl (Or.inl rfl) pe_int in_add)))
      (pss_one (ps_ret (pe_op op_add (pe_op op_mul (pv 1) (pe_callB (r := rLenS K) (call_len_seq) (by rfl) T.b_len boot_len (pa_cons (pe_fldK K rfl (pv 0) rfl) pa_nil))) (pv 4))))))))), ?_⟩
    refine q_asg (ev_meth (ev_var rfl) hF.ng ea_nil (spv_growing hS hg)) fun H1 e1 => ?_
    refine q_asgL (el_meth (ev_var rfl) (hS.nf.mono e1) (ea_cons (ev_var rfl) ea_nil) (spl_stocks (hS.mono e1))) fun p H2 hp e2 h2 => ?_
    refine q_asgL (el_meth (ev_var rfl) (hS.nf.mono (e1.trans e2)) (ea_cons (by walk_at "ev") ea_nil) (spl_stocks (hS.mono (e1.trans e2)))) fun q H3 hq e3 h3 => ?_
    refine q_asg ev_c fun H4 e4 => ?_
    refine q_while (fun m σ' H' => ∃ j : Nat, m = i - j ∧ j ≤ i ∧ σ' = [some (.ref c), some (.int (growing gain first full)), some (.ref p), some (.ref q), some (.int (j : Int))] ∧ Ex H4 H') i ⟨0, rfl, Nat.zero_le _, rfl, Ex.refl _⟩ ?_
    rintro m σ' H' ⟨j, rfl, hj, rfl, e5⟩
    have hjn : j ≤ bs.length := Nat.le_trans hj hi.1
    refine ⟨!decide (stkAt bs ds ks (start1 gain first full (growing gain first full)) j = stkAt bs ds ks (start1 gain first full (growing gain first full + 1)) j), ?_, fun hb H5 e6 => ?_, fun hb H5 e6 => ?_⟩
    · refine et_test ?_
      refine ev_is (ev_op (ev_ixL (ev_var rfl) (sq_of (e5 _ _ (e4 _ _ (e3 _ _ h2)))) (ev_var rfl) (atI_mapI (i := (j : Int)) (by omega) (by rw [stkL_len]; omega)))
        (ev_ixL (ev_var rfl) (sq_of (e5 _ _ (e4 _ _ h3))) (ev_var rfl) (atI_mapI (i := (j : Int)) (by omega) (by rw [stkL_len]; omega))) (rv_ne rfl)) ?_
      rw [Int.toNat_natCast, stkL_get hjn, stkL_get hjn]
      simp
    · have hne : stkAt bs ds ks (start1 gain first full (growing gain first full)) j ≠ stkAt bs ds ks (start1 gain first full (growing gain first full + 1)) j := by simpa using hb
      have hlt : j < i := by
        rcases Nat.lt_or_ge j i with z | z
        · exact z
        · have : j = i := by omega
          subst this
          exact absurd hi.2.1 hne
      refine ⟨fun σ2 H2 => ∃ m', m' < i - j ∧ ∃ j' : Nat, m' = i - j' ∧ j' ≤ i ∧ σ2 = [some (.ref c), some (.int (growing gain first full)), some (.ref p), some (.ref q), some (.int (j' : Int))] ∧ Ex H4 H2, fun σ2 H2 h => h, ?_⟩
      refine s_aug (a := (j : Int)) (b := 1) rfl ev_c fun H6 e7 => ?_
      exact ⟨i - (j + 1), by omega, j + 1, rfl, hlt, rfl, (e5.trans e6).trans e7⟩
    · have heq : stkAt bs ds ks (start1 gain first full (growing gain first full)) j = stkAt bs ds ks (start1 gain first full (growing gain first full + 1)) j := by simpa using hb
      have hji : j = i := by
        rcases Nat.lt_or_ge j i with z | z
        · exact absurd heq (hi.2.2 j z)
        · omega
      subst hji
      have eA : Ex H H5 := ((((e1.trans e2).trans e3).trans e4).trans e5).trans e6
      have fb := hP.fb.mono eA
      have hl : ((bs.map V.int).length : Int) = (bs.length : Int) := by rw [List.length_map]
      refine s_ret (ev_op (ev_op (ev_var rfl) (Ev.int_eq (ev_lenT (by walk_at "ev") (ex_t eA hP.hb)) hl) (rv_I (wide_ok (by omega)))) (ev_var rfl) rv_I0) fun H6 e7 => k H6 (eA.trans e7)
/-- the whole course -/
structure CO (K : PySem.W.Frag) (Z : Ad) (H : Hp) (c : Addr) (bs ds ks : List Int) (gain first full : Int) (fm lm : List Int) : Prop where
  sr : ∃ tb td tk, SR K Z H c bs ds ks tb td tk gain first full
  ffm : ∃ tf, FlK K H c Z.c_Course "_first_misses" (.ref tf) ∧ SqL K H tf (fm.map V.int)
  flm : ∃ tl, FlK K H c Z.c_Course "_later_misses" (.ref tl) ∧ SqL K H tl (lm.map V.int)
  lfm : fm.length = bs.length
  llm : lm.length = bs.length
  slm : lm.sum.natAbs ≤ 2 ^ 40
  sb : bs.sum.natAbs ≤ 2 ^ 40
  sd : ds.sum.natAbs ≤ 2 ^ 40
  nf : ∀ m : Str, m ∈ (["stock_at", "sales_on", "sales_before", "find_settled", "sum_settled_round", "loaves_at", "_misses_in", "_count_growing"] : List Str) → NoF H c Z.c_Course m
theorem CO.mono {K : PySem.W.Frag} {Z : Ad} {H H' : Hp} {c : Addr} {bs ds ks : List Int} {gain first full : Int} {fm lm : List Int} (e : Ex H H') (h : CO K Z H c bs ds ks gain first full fm lm) : CO K Z H' c bs ds ks gain first full fm lm :=
  ⟨let ⟨a, b, c, x⟩ := h.sr; ⟨a, b, c, x.mono e⟩, let ⟨a, x, y⟩ := h.ffm; ⟨a, x.mono e, ex_l e y⟩, let ⟨a, x, y⟩ := h.flm; ⟨a, x.mono e, ex_l e y⟩, h.lfm, h.llm, h.slm, h.sb, h.sd, fun m hm => (h.nf m hm).mono e⟩
def longI (bs ds lm : List Int) : List Int := [ds.sum - lm.sum, lm.sum, bs.sum - (ds.sum - lm.sum)]
def sp_sumround (K : PySem.W.Frag) (Z : Ad) : Sp := fun vs H Q _ => ∃ (c : Addr) (bs ds ks : List Int) (gain first full : Int) (fm lm : List Int), vs = [.ref c] ∧ CO K Z H c bs ds ks gain first full fm lm ∧ RetU ((longI bs ds lm).map V.int) H Q
theorem ok_Course_sum_settled_round (T : Txt K mg Z) : FnOk P w K mg base CX0 1 Z.f_Course_sum_settled_round Z.d_Course_sum_settled_round p_Course_sum_settled_round (sp_sumround K Z) := by
  refine T.F_Course_sum_settled_round.ok sc_Course_sum_settled_round (fun vs H Q E h => ?_) (fun cdv Ar outer s H vs Q E hr h => ?_)
  · obtain ⟨c, bs, ds, ks, gain, first, full, fm, lm, rfl, _⟩ := h
    rfl
  · obtain ⟨c, bs, ds, ks, gain, first, full, fm, lm, rfl, hC, k⟩ := h
    obtain ⟨tb, td, tk, hS⟩ := hC.sr
    obtain ⟨tl, fl, hl⟩ := hC.flm
    have hP := hS.pr
    have fd := hP.fd
    refine ⟨_, (pss_cons (ps_set (i := 1) sc_Course_sum_settled_round.nd rfl (Or.inl rfl) (pe_callB (r := rSum K) (cr_sum rfl) (by rfl) T.b_sum boot_sum (pa_cons (pe_fldK K rfl (pv 0) rfl) pa_nil)))
      (pss_cons (ps_set (i := 2) sc_Course_sum_settled_round.nd rfl (Or.inl rfl) (pe_op op_sub (pe_callB (r := rSumT K) (cr_sumT rfl) (by rfl) T.b_sum boot_sum (pa_cons (pe_fldK K rfl (pv 0) rfl) pa_nil)) (pv 1)))
      (pss_one (ps_ret (pe_tup (pa_cons (pv 2) (pa_cons (pv 1) (pa_cons (pe_op op_sub (pe_callB (r := rSumT K) (cr_sumT rfl) (by rfl) T.b_sum boot_sum (pa_cons (pe_fldK K rfl (pv 0) rfl) pa_nil)) (pv 2)) pa_nil)))))))), ?_⟩
    refine q_asg (ev_sumL (by walk_at "ev") hl) fun H1 e1 => ?_
    have fd := hP.fd.mono e1
    refine q_asg (ev_op (ev_sumT (by walk_at "ev") (ex_t e1 hP.hd)) (by walk_at "ev") rv_I0) fun H2 e2 => ?_
    have fb := hP.fb.mono (e1.trans e2)
    refine s_retU (eu_tup (ea_cons (ev_var rfl) (ea_cons (ev_var rfl) (ea_cons (ev_op (ev_sumT (by walk_at "ev") (ex_t (e1.trans e2) hP.hb)) (ev_var rfl) rv_I0) ea_nil))) (by show 3 ≤ 100000; decide)) fun q H3 hq e3 h3 => k q H3 (fresh_back (e1.trans e2) hq) ((e1.trans e2).trans e3) h3
/-- the first so many days -/
def missedI (bs fm lm : List Int) (days : Int) : Int := (fm.take days.toNat).sum + sumRep lm (max 0 (days - (bs.length : Int)))
def totI (bs ds ks : List Int) (gain first full : Int) (fm lm : List Int) (days : Int) : List Int :=
  [sumRep ds days - missedI bs fm lm days, missedI bs fm lm days, sumRep bs days - (sumRep ds days - missedI bs fm lm days) - stockI bs ds ks gain first full days]
def sp_before (K : PySem.W.Frag) (Z : Ad) : Sp := fun vs H Q _ => ∃ (c : Addr) (bs ds ks : List Int) (gain first full : Int) (fm lm : List Int) (days : Int), vs = [.ref c, .int days] ∧ 0 ≤ days ∧ CO K Z H c bs ds ks gain first full fm lm ∧ RetU ((totI bs ds ks gain first full fm lm days).map V.int) H Q
theorem spv_sumrep {K : PySem.W.Frag} {H : Hp} {a : Addr} {am : List Int} {days : Int} (h : SqT K H a (am.map V.int) ∨ SqL K H a (am.map V.int)) (h0 : 0 < am.length) (h1 : am.length ≤ 24) (h2 : am.sum.natAbs ≤ 2 ^ 40) :
    SpV (sp_sum_repeated K) [.ref a, .int days] H (.int (sumRep am days)) := fun _ e _ q _ => ⟨a, am, days, rfl, h.imp (ex_t e) (ex_l e), h0, h1, h2, q⟩
theorem ok_Course_sales_before (T : Txt K mg Z) : FnOk P w K mg base CX0 4 Z.f_Course_sales_before Z.d_Course_sales_before p_Course_sales_before (sp_before K Z) := by
  refine T.F_Course_sales_before.ok sc_Course_sales_before (fun vs H Q E h => ?_) (fun cdv Ar outer s H vs Q E hr h => ?_)
  · obtain ⟨c, bs, ds, ks, gain, first, full, fm, lm, days, rfl, _⟩ := h
    rfl
  · obtain ⟨c, bs, ds, ks, gain, first, full, fm, lm, days, rfl, hd0, hC, k⟩ := h
    obtain ⟨tb, td, tk, hS⟩ := hC.sr
    have hP := hS.pr
    have h0 := hP.gd.n0
    have h1 := hP.gd.n1
    have hld := hP.gd.ld
    have fb := hP.fb
    have hdn : days = ((days.toNat : Nat) : Int) := by omega
    have hl : ((bs.map V.int).length : Int) = (bs.length : Int) := by rw [List.length_map]
    refine ⟨_, (pss_cons (ps_set (i := 2) sc_Course_sales_before.nd rfl (Or.inl rfl) (pe_callB (r := rMax2) (call_max2 rfl) (by rfl) T.b_max boot_max (pa_cons pe_int (pa_cons (pe_op op_sub (pv 1) (pe_callB (r := rLenS K) (call_len_seq) (by rfl) T.b_len boot_len (pa_cons (pe_fldK K rfl (pv 0) rfl) pa_nil))) pa_nil))))
      (pss_cons (ps_set (i := 3) sc_Course_sales_before.nd rfl (Or.inl rfl) (pe_op op_add (pe_callB (r := rSum K) (cr_sum rfl) (by rfl) T.b_sum boot_sum (pa_cons (pe_slice (r := rSlL K) sl_list (pe_fldK K rfl (pv 0) rfl) po_none (po_some (pv 1))) pa_nil)) (pe_call (ok_sum_repeated T) (hr.mono (by decide)) (by rfl) T.g_sum_repeated T.F_sum_repeated.kp T.b_sum_repeated .nil pass0 (pa_cons (pe_fldK K rfl (pv 0) rfl) (pa_cons (pv 2) pa_nil)))))
      (pss_cons (ps_set (i := 4) sc_Course_sales_before.nd rfl (Or.inl rfl) (pe_op op_sub (pe_call (ok_sum_repeated T) (hr.mono (by decide)) (by rfl) T.g_sum_repeated T.F_sum_repeated.kp T.b_sum_repeated .nil pass0 (pa_cons (pe_fldK K rfl (pv 0) rfl) (pa_cons (pv 1) pa_nil))) (pv 3)))
      (pss_one (ps_ret (pe_tup (pa_cons (pv 4) (pa_cons (pv 3) (pa_cons (pe_op op_sub (pe_op op_sub (pe_call (ok_sum_repeated T) (hr.mono (by decide)) (by rfl) T.g_sum_repeated T.F_sum_repeated.kp T.b_sum_repeated .nil pass0 (pa_cons (pe_fldK K rfl (pv 0) rfl) (pa_cons (pv 1) pa_nil))) (pv 4)) (pe_meth (pv 0) T.cl_Course T.m_Course_stock_at (ok_Course_stock_at T) (hr.mono (by decide)) T.b_Course_stock_at .nil pass0 (pa_cons (pv 1) pa_nil))) pa_nil))))))))), ?_⟩
    refine q_asg (ev_maxi ev_c (ev_op (ev_var rfl) (Ev.int_eq (ev_lenT (by walk_at "ev") hP.hb) hl) rv_I0)) fun H1 e1 => ?_
    have hC1 := hC.mono e1
    obtain ⟨tf, ff, hf⟩ := hC1.ffm
    obtain ⟨tl, fl, hlm⟩ := hC1.flm
    refine q_asg (ev_op (ev_sumM (ns := fm.take days.toNat) ?_) (ev_call (vs := [.ref tl, .int (max 0 (days - (bs.length : Int)))]) (ea_cons (by walk_at "ev") (ea_cons (ev_var rfl) ea_nil)) (spv_sumrep (.inr hlm) (by rw [hC.llm]; omega) (by rw [hC.llm]; omega) hC.slm)) rv_I0) fun H2 e2 => ?_
    · rw [List.map_take]
      exact EvL.m (el_take (em_of (by walk_at "ev") hf) (Ev.int_eq (ev_var rfl) hdn))
    have hP2 := hP.mono (e1.trans e2)
    have fd := hP2.fd
    refine q_asg (ev_op (ev_call (vs := [.ref td, .int days]) (ea_cons (by walk_at "ev") (ea_cons (ev_var rfl) ea_nil)) (spv_sumrep (.inl hP2.hd) (by omega) (by omega) hC.sd)) (ev_var rfl) rv_I0) fun H3 e3 => ?_
    have eA := (e1.trans e2).trans e3
    have hP3 := hP.mono eA
    have fb3 := hP3.fb
    refine s_retU (eu_tup (ea_cons (ev_var rfl) (ea_cons (ev_var rfl) (ea_cons (ev_op (ev_op (ev_call (vs := [.ref tb, .int days]) (ea_cons (by walk_at "ev") (ea_cons (ev_var rfl) ea_nil)) (spv_sumrep (.inl hP3.hb) (by omega) (by omega) hC.sb)) (ev_var rfl) rv_I0)
      (ev_meth (ev_var rfl) (((hC.nf _ (by decide)).mono eA)) (ea_cons (ev_var rfl) ea_nil) (spv_stock_at (hS.mono eA))) rv_I0) ea_nil))) (by show 3 ≤ 100000; decide)) fun q H4 hq e4 h4 => k q H4 (fresh_back eA hq) (eA.trans e4) h4
end Sw
namespace Sw
open PySem PySem.Spec PyProof.Rows L2 Evl
local macro_rules | `(tactic| walk_at "ev") => `(tactic| first
  | exact ev_c
  | exact ev_var rfl
  | ((with_reducible show Ev (tCB rMax2 _) _ _ _); exact ev_maxi (by walk_at "ev") (by walk_at "ev"))
  | ((with_reducible show Ev (tCB rMn _) _ _ _); exact ev_min2 (by walk_at "ev") (by walk_at "ev"))
  | ((with_reducible show Ev (tUn _ _) _ _ _); exact ev_un (by walk_at "ev") ru_neg)
  | ((with_reducible show Ev (tFld _ _ _) _ _ _); exact ev_fldK (by walk_at "ev") (by assumption))
  | ((with_reducible show Ev (tOp (rI0 _) _ _) _ _ _); exact ev_op (by walk_at "ev") (by walk_at "ev") rv_I0)
  | ((with_reducible show Ev (tOp rEq _ _) _ _ _); exact ev_op (by walk_at "ev") (by walk_at "ev") (rv_eq rfl))
  | ((with_reducible show Ev (tOp rNe _ _) _ _ _); exact ev_op (by walk_at "ev") (by walk_at "ev") (rv_ne rfl)))

/-! ### what a course is made with -/
def gainOf (bs ds : List Int) : Int := max 0 (bs.sum - ds.sum)
def firstOf (bs ds ks : List Int) : Int := stkAt bs ds ks 0 bs.length
def fullOf (bs ds ks : List Int) : Int := stkAt bs ds ks (ks.getD 0 0 + ds.getD 0 0) bs.length
def fmOf (bs ds ks : List Int) : List Int := missL ds bs (stkL bs ds ks (start1 (gainOf bs ds) (firstOf bs ds ks) (fullOf bs ds ks) 0))
def lmOf (bs ds ks : List Int) : List Int := missL ds bs (stkL bs ds ks (start1 (gainOf bs ds) (firstOf bs ds ks) (fullOf bs ds ks) 1))
theorem sum_bound {xs : List Int} {M : Int} (hM : 0 ≤ M) (h : ∀ x ∈ xs, 0 ≤ x ∧ x ≤ M) : 0 ≤ xs.sum ∧ xs.sum ≤ (xs.length : Int) * M := by
  induction xs with
  | nil => simp
  | cons a r ih =>
    have h1 := h a (by simp)
    have h2 := ih fun x hx => h x (by simp [hx])
    rw [List.sum_cons, List.length_cons]
    have e : ((r.length + 1 : Nat) : Int) * M = (r.length : Int) * M + M := by
      rw [Int.natCast_add, Int.add_mul]; simp
    omega
theorem sum_small {xs : List Int} (hl : xs.length ≤ 24) (h : ∀ x ∈ xs, 0 ≤ x ∧ x ≤ 1000000000) : 0 ≤ xs.sum ∧ xs.sum ≤ 24000000000 := by
  have z := sum_bound (by omega : (0 : Int) ≤ 1000000000) h
  have : (xs.length : Int) * 1000000000 ≤ 24 * 1000000000 := Int.mul_le_mul_of_nonneg_right (by omega) (by omega)
  omega
theorem getD_mem0 {xs : List Int} {i : Nat} (h : ∀ x ∈ xs, 0 ≤ x ∧ x ≤ 1000000000) : 0 ≤ xs.getD i 0 ∧ xs.getD i 0 ≤ 1000000000 := by
  by_cases hi : i < xs.length
  · have e : xs.getD i 0 = xs[i] := by simp [List.getD, hi]
    rw [e]; exact h _ (List.getElem_mem hi)
  · have e : xs.getD i 0 = 0 := by simp [List.getD, List.getElem?_eq_none (Nat.le_of_not_lt hi)]
    rw [e]; omega
theorem keepAt_nn {bs : List Int} {life : Int} {i : Nat} (h : ∀ x ∈ bs, 0 ≤ x ∧ x ≤ 1000000000) : 0 ≤ keepAt bs life i := by
  unfold keepAt
  generalize (life - 1).toNat = m
  induction m with
  | zero => simp
  | succ m ih =>
    rw [List.range_succ, List.map_append, List.sum_append]
    have z := (getD_mem0 (i := ((((i : Int) - (m : Int)) % (bs.length : Int)).toNat)) h).1
    simp at z ih ⊢
    omega
theorem keepL_nn {bs : List Int} {life : Int} (h : ∀ x ∈ bs, 0 ≤ x ∧ x ≤ 1000000000) {i : Nat} : 0 ≤ (keepL bs life).getD i 0 := by
  unfold keepL
  by_cases hi : i < bs.length
  · have e : ((List.range bs.length).map (keepAt bs life)).getD i 0 = keepAt bs life i := by simp [List.getD, List.getElem?_range hi]
    rw [e]; exact keepAt_nn h
  · have e : ((List.range bs.length).map (keepAt bs life)).getD i 0 = 0 := by
      simp [List.getD, List.getElem?_eq_none (show (List.map (keepAt bs life) (List.range bs.length)).length ≤ i by simp; omega)]
    rw [e]; omega
theorem stp_nn {s b d k : Int} (hk : 0 ≤ k) : 0 ≤ stp s b d k := by unfold stp; omega
theorem stkAt_nn {bs ds ks : List Int} {s : Int} (hs : 0 ≤ s) (hk : ∀ i, 0 ≤ ks.getD i 0) (i : Nat) : 0 ≤ stkAt bs ds ks s i := by
  cases i with
  | zero => exact hs
  | succ i => exact stp_nn (hk i)
theorem missL_len {ds bs st : List Int} : (missL ds bs st).length = ds.length := by simp [missL]
theorem missL_small {ds bs st : List Int} (hd : ∀ x ∈ ds, 0 ≤ x ∧ x ≤ 1000000000) (hb : ∀ i, 0 ≤ bs.getD i 0) (hs : ∀ i, i < ds.length → 0 ≤ st.getD i 0) : ∀ x ∈ missL ds bs st, 0 ≤ x ∧ x ≤ 1000000000 := by
  intro x hx
  unfold missL at hx
  obtain ⟨i, hi, rfl⟩ := List.mem_map.mp hx
  have h1 := hb i
  have h2 := hs i (List.mem_range.mp hi)
  have h3 := getD_mem0 (i := i) hd
  omega
theorem start1_nn {gain first full r : Int} (hg : 0 ≤ gain) (hf : 0 ≤ first) (hu : 0 ≤ full) (hr : 0 ≤ r) : 0 ≤ start1 gain first full r := by
  unfold start1
  by_cases h : r = 0
  · rw [if_pos h]; omega
  · rw [if_neg h]
    have : 0 ≤ (r - 1) * gain := Int.mul_nonneg (by omega) hg
    omega
structure CoM (bs ds ks : List Int) : Prop where
  gd : Good bs ds
  kl : ks.length = bs.length
  kn : ∀ i, 0 ≤ ks.getD i 0
theorem CoM.first {bs ds ks : List Int} (h : CoM bs ds ks) : 0 ≤ firstOf bs ds ks := stkAt_nn (by omega) h.kn _
theorem CoM.full {bs ds ks : List Int} (h : CoM bs ds ks) : 0 ≤ fullOf bs ds ks := stkAt_nn (by have := h.kn 0; have := (getD_mem0 (i := 0) h.gd.d0).1; omega) h.kn _
theorem CoM.gainb {bs ds ks : List Int} (h : CoM bs ds ks) : 0 ≤ gainOf bs ds ∧ gainOf bs ds ≤ 24000000000 := by
  have z1 := sum_small h.gd.n1 h.gd.b0
  have z2 := sum_small (by have := h.gd.ld; have := h.gd.n1; omega) h.gd.d0
  unfold gainOf; omega
theorem CoM.miss {bs ds ks : List Int} (h : CoM bs ds ks) {r : Int} (hr : 0 ≤ r) : ∀ x ∈ missL ds bs (stkL bs ds ks (start1 (gainOf bs ds) (firstOf bs ds ks) (fullOf bs ds ks) r)), 0 ≤ x ∧ x ≤ 1000000000 := by
  refine missL_small h.gd.d0 (fun i => (getD_mem0 h.gd.b0).1) fun i hi => ?_
  rw [stkL_get (by have := h.gd.ld; omega)]
  exact stkAt_nn (start1_nn h.gainb.1 h.first h.full hr) h.kn i
/-- from H to S, what is not of M is kept, and what is of M is known -/
structure Go (M : Addr → Prop) (a : Addr) (H S : Hp) : Prop where
  ex : Ex (wn H M) (wn S M)
  kn : ∀ b, M b → S b ≠ none
  al : ∀ b o, H b = some o → b ≠ a → S b = some o
theorem Go.up {M : Addr → Prop} {H H1 : Hp} {a : Addr} {o : HO} (ha : M a) (kn : ∀ b, M b → H b ≠ none) (e : Ex H H1) : Go M a H (upd H1 a o) := by
  refine ⟨(wn_mono e).trans (wn_upd ha), fun b hb q => ?_, fun b u h z => by rw [upd_ne z]; exact e b u h⟩
  by_cases z : b = a
  · rw [z, upd_same] at q; cases q
  · rw [upd_ne z] at q
    cases hh : H b with
    | none => exact kn b hb hh
    | some u => rw [e b u hh] at q; cases q
/-- the finished course of a bakery -/
def CoAt (K : PySem.W.Frag) (Z : Ad) (H : Hp) (c : Addr) (bs ds ks : List Int) : Prop :=
  CO K Z H c bs ds ks (gainOf bs ds) (firstOf bs ds ks) (fullOf bs ds ks) (fmOf bs ds ks) (lmOf bs ds ks)
def sp_Cinit (K : PySem.W.Frag) (Z : Ad) : Sp := fun vs H Q _ => ∃ (x dx tb td : Addr) (bs ds : List Int) (life : Int) (N : Addr → Prop), vs = [.ref x, .ref tb, .ref td, .int life] ∧ H x = some (.ins Z.c_Course dx []) ∧
  SqT K (wn H N) tb (bs.map V.int) ∧ SqT K (wn H N) td (ds.map V.int) ∧ Good bs ds ∧ 1 ≤ life ∧ life ≤ 30 ∧
  (∀ b, N b → H b ≠ none) ∧ ¬ N x ∧ ∀ H', CoAt K Z (wn H' N) x bs ds (keepL bs life) → (∀ b o, H b = some o → b ≠ x → H' b = some o) → Q .non H'
theorem spl_keep {K : PySem.W.Frag} {H : Hp} {a : Addr} {bs : List Int} {life : Int} (h : SqT K H a (bs.map V.int)) (h0 : 0 < bs.length) (h1 : bs.length ≤ 24) (h2 : 1 ≤ life) (h3 : life ≤ 30) :
    SpL (sp_count_keepable K) [.ref a, .int life] H ((keepL bs life).map V.int) := fun _ e _ q _ => ⟨a, bs, life, rfl, ex_t e h, h0, h1, h2, h3, q⟩
theorem keepL_len {bs : List Int} {life : Int} : (keepL bs life).length = bs.length := by simp [keepL]
theorem atI_neg1 {xs : List Int} {n : Nat} (h : xs.length = n + 1) : atI (xs.map V.int) (-1) = some (.int (xs.getD n 0)) := by
  have e : ixN (xs.map V.int).length (-1) = some n := by
    unfold ixN
    rw [List.length_map, h]
    rw [if_neg (by omega), if_pos (by omega)]
    congr 1
    omega
  unfold atI
  rw [e]
  simp [List.getD, h]
theorem flk_of {K : PySem.W.Frag} {S : Hp} {x C dx : Addr} {fs : List (Str × V)} {f : Str} {v : V} (h : S x = some (.ins C dx fs)) (c : Cls K C) (n : NoAttr K C f) (l : fs.lookup f = some v) : FlK K S x C f v := ⟨⟨dx, fs, h, l⟩, c, n⟩
def cf3 (tb td tk : Addr) : List (Str × V) := putF "_keepable" (.ref tk) (putF "_demands" (.ref td) (putF "_bakes" (.ref tb) []))
def cf6 (tb td tk : Addr) (g a b : Int) : List (Str × V) := putF "_full_end" (.int b) (putF "_first_end" (.int a) (putF "_gain" (.int g) (cf3 tb td tk)))
def cf8 (tb td tk tf tl : Addr) (g a b : Int) : List (Str × V) := putF "_later_misses" (.ref tl) (putF "_first_misses" (.ref tf) (cf6 tb td tk g a b))
section
variable {K : PySem.W.Frag} {σ : L2.St} {H : Hp} {ta te : TE} {v : V} {a C dx : Addr} {fs : List (Str × V)} {f : Str} {D : Ends} {tz : TS}
variable {M : Addr → Prop}
/-- self.f = e while self is being made -/
theorem q_self (ha : M a) (kn : ∀ b, M b → H b ≠ none) (h : Ev te σ H v) (ho : ∀ H1, Ex H H1 → Ev ta σ H1 (.ref a)) (hx : H a = some (.ins C dx fs)) (c : Cls K C) (n : NoAttr K C f) (hl : fs.length < 1000)
    (k : ∀ S : Hp, S a = some (.ins C dx (putF f v fs)) → Go M a H S → tz D σ S) : tSeq (sFld K ta te f) tz D σ H := q_fld h ho hx c n hl fun H1 e => k _ upd_same (Go.up ha kn e)
theorem fresh_l {H H1 : Hp} {p : Addr} {xs : List V} {o : HO} (ha : M a) (kn : ∀ b, M b → H b ≠ none) (hp : H p = none) (h1 : H1 p = some (.lst xs)) : SqL K (wn (upd H1 a o) M) p xs := by
  have q : ¬ M p := fun z => kn p z hp
  have nb : p ≠ a := fun z => q (by rw [z]; exact ha)
  exact sq_of (by rw [wn_ni q, upd_ne nb]; exact h1)
theorem fresh_t {H H1 : Hp} {p : Addr} {xs : List V} {o : HO} (ha : M a) (kn : ∀ b, M b → H b ≠ none) (hp : H p = none) (h1 : H1 p = some (.tup xs)) : SqT K (wn (upd H1 a o) M) p xs := by
  have q : ¬ M p := fun z => kn p z hp
  have nb : p ≠ a := fun z => q (by rw [z]; exact ha)
  exact st_of (by rw [wn_ni q, upd_ne nb]; exact h1)
theorem q_selfL {xs : List V} (ha : M a) (kn : ∀ b, M b → H b ≠ none) (h : EvL te σ H xs) (ho : ∀ H1, Ex H H1 → Ev ta σ H1 (.ref a)) (hx : H a = some (.ins C dx fs)) (c : Cls K C) (n : NoAttr K C f) (hl : fs.length < 1000)
    (k : ∀ (p : Addr) (S : Hp), SqL K (wn S M) p xs → S a = some (.ins C dx (putF f (.ref p) fs)) → Go M a H S → tz D σ S) : tSeq (sFld K ta te f) tz D σ H := q_fldL h ho hx c n hl fun p H1 hp e h1 =>
  k p _ (fresh_l ha kn hp h1) upd_same (Go.up ha kn e)
theorem s_selfL {xs : List V} (ha : M a) (kn : ∀ b, M b → H b ≠ none) (h : EvL te σ H xs) (ho : ∀ H1, Ex H H1 → Ev ta σ H1 (.ref a)) (hx : H a = some (.ins C dx fs)) (c : Cls K C) (n : NoAttr K C f) (hl : fs.length < 1000)
    (k : ∀ (p : Addr) (S : Hp), SqL K (wn S M) p xs → S a = some (.ins C dx (putF f (.ref p) fs)) → Go M a H S → D.nx σ S) : sFld K ta te f D σ H := s_fldL h ho hx c n hl fun p H1 hp e h1 =>
  k p _ (fresh_l ha kn hp h1) upd_same (Go.up ha kn e)
theorem q_selfU {xs : List V} (ha : M a) (kn : ∀ b, M b → H b ≠ none) (h : EvU te σ H xs) (ho : ∀ H1, Ex H H1 → Ev ta σ H1 (.ref a)) (hx : H a = some (.ins C dx fs)) (c : Cls K C) (n : NoAttr K C f) (hl : fs.length < 1000)
    (k : ∀ (p : Addr) (S : Hp), SqT K (wn S M) p xs → S a = some (.ins C dx (putF f (.ref p) fs)) → Go M a H S → D.nx σ S) : sFld K ta te f D σ H := s_fldU h ho hx c n hl fun p H1 hp e h1 =>
  k p _ (fresh_t ha kn hp h1) upd_same (Go.up ha kn e)
end
variable {P : Program} {w : World} {K : PySem.W.Frag} {mg : Str → Option Value} {base : Heap} {Z : Ad}
theorem ok_Course___init__ (T : Txt K mg Z) : FnOk P w K mg base CX0 4 Z.f_Course___init__ Z.d_Course___init__ p_Course___init__ (sp_Cinit K Z) := by
  refine T.F_Course___init__.ok sc_Course___init__ (fun vs H Q E h => ?_) (fun cdv Ar outer s H vs Q E hr h => ?_)
  · obtain ⟨x, dx, tb, td, bs, ds, life, N, rfl, _⟩ := h
    rfl
  · obtain ⟨x, dx, tb, td, bs, ds, life, N, rfl, hx, hb, hd, gd, l0, l1, hN, nNx, k⟩ := h
    have hM : nx x N x := .inl rfl
    have cl := T.cl_Course
    have hbw : SqT K (wn H (nx x N)) tb (bs.map V.int) := wn_tx hx hb
    have hdw : SqT K (wn H (nx x N)) td (ds.map V.int) := wn_tx hx hd
    have kn0 : ∀ b, nx x N b → H b ≠ none := fun b z q => z.elim (fun e => by rw [e, hx] at q; cases q) fun e => hN b e q
    refine ⟨_, (pss_cons (ps_fld (pv 0) (pv 1) rfl)
      (pss_cons (ps_fld (pv 0) (pv 2) rfl)
      (pss_cons (ps_fld (pv 0) (pe_call (ok_count_keepable T) (hr.mono (by decide)) (by rfl) T.g_count_keepable T.F_count_keepable.kp T.b_count_keepable .nil pass0 (pa_cons (pv 1) (pa_cons (pv 3) pa_nil))) rfl)
      (pss_cons (ps_fld (pv 0) (pe_callB (r := rMax2) (call_max2 rfl) (by rfl) T.b_max boot_max (pa_cons pe_int (pa_cons (pe_op op_sub (pe_callB (r := rSumT K) (cr_sumT rfl) (by rfl) T.b_sum boot_sum (pa_cons (pv 1) pa_nil)) (pe_callB (r := rSumT K) (cr_sumT rfl) (by rfl) T.b_sum boot_sum (pa_cons (pv 2) pa_nil))) pa_nil))) rfl)
      (pss_cons (ps_fld (pv 0) (pe_ix (r := rIxL K) ix_list (pe_meth (pv 0) T.cl_Course T.m_Course__play_round (ok_Course__play_round T) (hr.mono (by decide)) T.b_Course__play_round .nil pass0 (pa_cons pe_int pa_nil)) (pe_un un_neg pe_int) (fun _ _ => rfl)) rfl)
      (pss_cons (ps_fld (pv 0) (pe_ix (r := rIxL K) ix_list (pe_meth (pv 0) T.cl_Course T.m_Course__play_round (ok_Course__play_round T) (hr.mono (by decide)) T.b_Course__play_round .nil pass0 (pa_cons (pe_op op_add (pe_ix (r := rIxL K) ix_list (pe_fldK K rfl (pv 0) rfl) pe_int (fun _ _ => rfl)) (pe_ix (r := rIxT K) ix_tup (pv 2) pe_int (fun _ _ => rfl))) pa_nil)) (pe_un un_neg pe_int) (fun _ _ => rfl)) rfl)
      (pss_cons (ps_fld (pv 0) (pe_meth (pv 0) T.cl_Course T.m_Course__misses_in (ok_Course__misses_in T) (hr.mono (by decide)) T.b_Course__misses_in .nil pass0 (pa_cons pe_int pa_nil)) rfl)
      (pss_one (ps_fld (pv 0) (pe_meth (pv 0) T.cl_Course T.m_Course__misses_in (ok_Course__misses_in T) (hr.mono (by decide)) T.b_Course__misses_in .nil pass0 (pa_cons pe_int pa_nil)) rfl))))))))), ?_⟩
    -- _bakes, _demands, _keepable
    refine q_self hM kn0 (ev_var rfl) (fun _ _ => ev_var rfl) hx cl T.na_Course__bakes (by decide) fun S1 x1 g1 => ?_
    have w1 := g1.ex
    refine q_self hM g1.kn (ev_var rfl) (fun _ _ => ev_var rfl) x1 cl T.na_Course__demands (by show 1 < 1000; decide) fun S2 x2 g2 => ?_
    have w2 := g2.ex
    refine q_selfL hM g2.kn (el_call (vs := [.ref tb, .int life]) (ea_cons (ev_var rfl) (ea_cons (ev_var rfl) ea_nil)) (spl_keep (ex_t ((w1.trans w2).trans wn_ex) hbw) gd.n0 gd.n1 l0 l1)) (fun _ _ => ev_var rfl) x2 cl T.na_Course__keepable (by show 2 < 1000; decide) fun tk S3 hk3 x3 g3 => ?_
    have w3' := g3.ex
    have w3 := (w1.trans w2).trans w3'
    have m0 : CoM bs ds (keepL bs life) := ⟨gd, keepL_len, fun i => keepL_nn gd.b0⟩
    have sb : ∀ {S : Hp}, Ex (wn S (nx x N)) (wn S N) := wn_sub fun b z => .inr z
    have pr : ∀ {S : Hp} {fs : List (Str × V)}, Ex (wn S3 (nx x N)) (wn S (nx x N)) → S x = some (.ins Z.c_Course dx fs) → fs.lookup ("_bakes" : Str) = some (V.ref tb) → fs.lookup ("_demands" : Str) = some (V.ref td) → fs.lookup ("_keepable" : Str) = some (V.ref tk) → fs.lookup ("_play_round" : Str) = none → PR K Z (wn S N) x bs ds (keepL bs life) tb td tk :=
      fun e hx' l1 l2 l3 l4 => by
        have hx : wn _ N x = _ := (wn_ni nNx).trans hx'
        exact ⟨flk_of hx cl T.na_Course__bakes l1, ex_t sb (ex_t e (ex_t w3 hbw)), flk_of hx cl T.na_Course__demands l2, ex_t sb (ex_t e (ex_t w3 hdw)), flk_of hx cl T.na_Course__keepable l3, ex_l sb (ex_l e hk3), ⟨_, _, hx, l4⟩, gd, keepL_len⟩
    -- _gain
    refine q_self hM g3.kn (v := .int (gainOf bs ds)) (ev_maxi ev_c (ev_op (ev_sumT (ev_var rfl) (ex_t wn_ex (ex_t w3 hbw))) (ev_sumT (ev_var rfl) (ex_t wn_ex (ex_t w3 hdw))) rv_I0)) (fun _ _ => ev_var rfl) x3 cl T.na_Course__gain (by show 3 < 1000; decide) fun S4 x4 g4 => ?_
    have w4 := g4.ex
    have p4 := (pr w4 x4 rfl rfl rfl rfl).mono wn_ex
    -- _first_end
    have n1 : (stkL bs ds (keepL bs life) 0).length = bs.length + 1 := stkL_len
    refine q_self hM g4.kn (v := .int (firstOf bs ds (keepL bs life))) (ev_is (ev_ixNL (el_meth (ev_var rfl) p4.nf (ea_cons ev_c ea_nil) (spl_play (s := 0) p4)) (ev_un ev_c ru_neg) (atI_neg1 n1)) (by rw [stkL_get (Nat.le_refl _)]; rfl)) (fun _ _ => ev_var rfl) x4 cl T.na_Course__first_end (by show 4 < 1000; decide) fun S5 x5 g5 => ?_
    have w5 := g5.ex
    have p5 := (pr (w4.trans w5) x5 rfl rfl rfl rfl).mono wn_ex
    -- _full_end
    have n2 : (stkL bs ds (keepL bs life) ((keepL bs life).getD 0 0 + ds.getD 0 0)).length = bs.length + 1 := stkL_len
    have h0 := gd.n0
    have hld := gd.ld
    have fk5 := p5.fk
    refine q_self hM g5.kn (v := .int (fullOf bs ds (keepL bs life))) (ev_is (ev_ixNL (el_meth (ev_var rfl) p5.nf (ea_cons (ev_op (ev_ixL (by walk_at "ev") p5.hk ev_c (atI_mapI (i := 0) (by omega) (by rw [keepL_len]; omega))) (ev_ixT (ev_var rfl) p5.hd ev_c (atI_mapI (i := 0) (by omega) (by omega))) rv_I0) ea_nil) (spl_play p5)) (ev_un ev_c ru_neg) (atI_neg1 n2)) (by rw [stkL_get (Nat.le_refl _)]; rfl)) (fun _ _ => ev_var rfl) x5 cl T.na_Course__full_end (by show 5 < 1000; decide) fun S6 x6 g6 => ?_
    have w6 := g6.ex
    have w46 := (w4.trans w5).trans w6
    have gb := m0.gainb
    have sr : ∀ {S : Hp} {fs : List (Str × V)}, Ex (wn S6 (nx x N)) (wn S (nx x N)) → S x = some (.ins Z.c_Course dx fs) → fs.lookup ("_bakes" : Str) = some (V.ref tb) → fs.lookup ("_demands" : Str) = some (V.ref td) → fs.lookup ("_keepable" : Str) = some (V.ref tk) → fs.lookup ("_play_round" : Str) = none →
        fs.lookup ("_gain" : Str) = some (V.int (gainOf bs ds)) → fs.lookup ("_first_end" : Str) = some (V.int (firstOf bs ds (keepL bs life))) → fs.lookup ("_full_end" : Str) = some (V.int (fullOf bs ds (keepL bs life))) → fs.lookup ("_stocks_in" : Str) = none → SR K Z (wn S N) x bs ds (keepL bs life) tb td tk (gainOf bs ds) (firstOf bs ds (keepL bs life)) (fullOf bs ds (keepL bs life)) :=
      fun e hx' l1 l2 l3 l4 l5 l6 l7 l8 => by
        have hx : wn _ N x = _ := (wn_ni nNx).trans hx'
        exact ⟨pr (w46.trans e) hx' l1 l2 l3 l4, flk_of hx cl T.na_Course__gain l5, flk_of hx cl T.na_Course__first_end l6, flk_of hx cl T.na_Course__full_end l7, ⟨_, _, hx, l8⟩, by omega⟩
    have s6 := (sr (Ex.refl _) x6 rfl rfl rfl rfl rfl rfl rfl rfl).mono wn_ex
    refine q_selfL hM g6.kn (xs := (fmOf bs ds (keepL bs life)).map V.int) (el_meth (ev_var rfl) ⟨_, _, x6, rfl⟩ (ea_cons ev_c ea_nil) (spl_misses (r := 0) s6)) (fun _ _ => ev_var rfl) x6 cl T.na_Course__first_misses (by show 6 < 1000; decide) fun tf S7 hf7 x7 g7 => ?_
    have w7 := g7.ex
    have s7 := (sr w7 x7 rfl rfl rfl rfl rfl rfl rfl rfl).mono wn_ex
    refine s_selfL hM g7.kn (xs := (lmOf bs ds (keepL bs life)).map V.int) (el_meth (ev_var rfl) ⟨_, _, x7, rfl⟩ (ea_cons ev_c ea_nil) (spl_misses (r := 1) s7)) (fun _ _ => ev_var rfl) x7 cl T.na_Course__later_misses (by show 7 < 1000; decide) fun tl S8 hl8 x8 g8 => ?_
    have w8 := g8.ex
    have s8 := sr (w7.trans w8) x8 rfl rfl rfl rfl rfl rfl rfl rfl
    have ll : (lmOf bs ds (keepL bs life)).length = bs.length := by unfold lmOf; rw [missL_len]; exact hld
    have q1 := sum_small (xs := lmOf bs ds (keepL bs life)) (by rw [ll]; exact gd.n1) (m0.miss (r := 1) (by omega))
    have q2 := sum_small gd.n1 gd.b0
    have q3 := sum_small (by have := gd.n1; omega) gd.d0
    have y8 : wn S8 N x = _ := (wn_ni nNx).trans x8
    refine k S8 ⟨⟨tb, td, tk, s8⟩, ⟨tf, flk_of y8 cl T.na_Course__first_misses rfl, ex_l sb (ex_l w8 hf7)⟩, ⟨tl, flk_of y8 cl T.na_Course__later_misses rfl, ex_l sb hl8⟩, ?_, ll, ?_, by omega, by omega, ?_⟩ fun b o hbo hne => ?_
    · unfold fmOf; rw [missL_len]; exact hld
    · omega
    · intro m hm
      refine ⟨_, _, y8, ?_⟩
      simp only [List.mem_cons, List.not_mem_nil, or_false] at hm
      rcases hm with rfl | rfl | rfl | rfl | rfl | rfl | rfl | rfl <;> rfl
    · exact g8.al b o (g7.al b o (g6.al b o (g5.al b o (g4.al b o (g3.al b o (g2.al b o (g1.al b o hbo hne) hne) hne) hne) hne) hne) hne) hne
end Sw
namespace Sw
/-! ### the mathematics of the stock -/
section
variable {bs ds ks : List Int}
/-- what is gained in the first so many days of a round -/
def dlt (bs ds : List Int) : Nat → Int
  | 0 => 0
  | i + 1 => dlt bs ds i + (bs.getD i 0 - ds.getD i 0)
theorem clamp_step {lo hi z b d k : Int} (h0 : 0 ≤ lo) (h1 : lo ≤ hi) (hk : 0 ≤ k) :
    stp (min hi (max lo z)) b d k = min (stp hi b d k) (max (stp lo b d k) (z + (b - d))) := by
  unfold stp; omega
theorem clamp (h : CoM bs ds ks) (i : Nat) (hi : 0 < i) : ∃ lo hi : Int, 0 ≤ lo ∧ lo ≤ hi ∧ (∀ x, stkAt bs ds ks x i = min hi (max lo (x + dlt bs ds i))) ∧ stkAt bs ds ks (ks.getD 0 0 + ds.getD 0 0) i = hi := by
  induction i with
  | zero => omega
  | succ i ih =>
    have hk := h.kn i
    by_cases hi0 : i = 0
    · subst hi0
      have hb := (getD_mem0 (i := 0) h.gd.b0).1
      refine ⟨0, ks.getD 0 0, Int.le_refl _, hk, fun x => ?_, ?_⟩
      · show stp x _ _ _ = _
        unfold stp dlt dlt
        omega
      · show stp _ _ _ _ = _
        unfold stp
        simp only [stkAt]
        omega
    · obtain ⟨lo, hi', a, b, c, d⟩ := ih (by omega)
      refine ⟨stp lo (bs.getD i 0) (ds.getD i 0) (ks.getD i 0), stp hi' (bs.getD i 0) (ds.getD i 0) (ks.getD i 0), stp_nn hk, by unfold stp; omega, fun x => ?_, ?_⟩
      · show stp (stkAt bs ds ks x i) _ _ _ = _
        rw [c x, clamp_step a b hk]
        have e : x + dlt bs ds i + (bs.getD i 0 - ds.getD i 0) = x + dlt bs ds (i + 1) := by
          show _ = x + (dlt bs ds i + _); omega
        rw [e]
      · show stp (stkAt bs ds ks _ i) _ _ _ = _
        rw [d]
theorem sum_take_succ (xs : List Int) (i : Nat) : (xs.take (i + 1)).sum = (xs.take i).sum + xs.getD i 0 := by
  induction xs generalizing i with
  | nil => simp
  | cons a r ih =>
    cases i with
    | zero => simp
    | succ i =>
      have z := ih i
      simp only [List.take_succ_cons, List.sum_cons, List.getD_cons_succ]
      omega
theorem dlt_sum (i : Nat) : dlt bs ds i = (bs.take i).sum - (ds.take i).sum := by
  induction i with
  | zero => simp [dlt]
  | succ i ih => rw [sum_take_succ, sum_take_succ, dlt, ih]; omega
/-- a round: from the stock at its beginning to the one at its end -/
theorem round_clamp (h : CoM bs ds ks) : ∃ lo : Int, 0 ≤ lo ∧ lo ≤ fullOf bs ds ks ∧ ∀ x, stkAt bs ds ks x bs.length = min (fullOf bs ds ks) (max lo (x + (bs.sum - ds.sum))) := by
  obtain ⟨lo, hi, a, b, c, d⟩ := clamp h bs.length h.gd.n0
  have e : fullOf bs ds ks = hi := d
  have q : dlt bs ds bs.length = bs.sum - ds.sum := by
    rw [dlt_sum, List.take_length, ← h.gd.ld, List.take_length]
  rw [e]
  exact ⟨lo, a, b, fun x => by rw [c x, q]⟩
abbrev st (bs ds ks : List Int) (r : Int) : Int := start1 (gainOf bs ds) (firstOf bs ds ks) (fullOf bs ds ks) r
theorem st_zero : st bs ds ks 0 = 0 := by unfold st start1; rw [if_pos rfl]
theorem st_pos {r : Int} (h : r ≠ 0) : st bs ds ks r = min (fullOf bs ds ks) (firstOf bs ds ks + (r - 1) * gainOf bs ds) := by unfold st start1; rw [if_neg h]
theorem st_step (h : CoM bs ds ks) {r : Int} (hr : 0 ≤ r) : st bs ds ks (r + 1) = stkAt bs ds ks (st bs ds ks r) bs.length := by
  obtain ⟨lo, a, b, c⟩ := round_clamp h
  have hf : firstOf bs ds ks = min (fullOf bs ds ks) (max lo (0 + (bs.sum - ds.sum))) := c 0
  rw [st_pos (by omega)]
  by_cases h0 : r = 0
  · subst h0
    rw [st_zero]
    show _ = firstOf bs ds ks
    have e : ((0 : Int) + 1 - 1) * gainOf bs ds = 0 := by simp
    rw [e]; omega
  · rw [st_pos h0, c]
    have e : (r + 1 - 1) * gainOf bs ds = (r - 1) * gainOf bs ds + gainOf bs ds := by
      have : r + 1 - 1 = (r - 1) + 1 := by omega
      rw [this, Int.add_mul, Int.one_mul]
    rw [e]
    have hg : gainOf bs ds = max 0 (bs.sum - ds.sum) := rfl
    have hp : 0 ≤ (r - 1) * gainOf bs ds := Int.mul_nonneg (by omega) (by omega)
    by_cases hd : bs.sum - ds.sum ≤ 0
    · have g0 : gainOf bs ds = 0 := by omega
      rw [g0, Int.mul_zero]
      omega
    · generalize (r - 1) * gainOf bs ds = t at hp
      omega
/-- the days one by one -/
def dayS (bs ds ks : List Int) : Nat → Int
  | 0 => 0
  | t + 1 => stp (dayS bs ds ks t) (bs.getD (t % bs.length) 0) (ds.getD (t % bs.length) 0) (ks.getD (t % bs.length) 0)
theorem dayS_round (h : CoM bs ds ks) (r : Nat) : ∀ i, i ≤ bs.length → dayS bs ds ks (r * bs.length + i) = stkAt bs ds ks (st bs ds ks (r : Int)) i := by
  have hn := h.gd.n0
  induction r with
  | zero =>
    intro i hi
    rw [show ((0 : Nat) : Int) = 0 from rfl, st_zero]
    induction i with
    | zero => simp [dayS, stkAt]
    | succ i ih =>
      have e : (0 * bs.length + i) % bs.length = i := by rw [Nat.zero_mul, Nat.zero_add, Nat.mod_eq_of_lt (by omega)]
      rw [show 0 * bs.length + (i + 1) = (0 * bs.length + i) + 1 by omega]
      show stp (dayS bs ds ks (0 * bs.length + i)) _ _ _ = stp (stkAt bs ds ks 0 i) _ _ _
      rw [e, ih (by omega)]
  | succ r ihr =>
    intro i hi
    induction i with
    | zero =>
      have z := ihr bs.length (Nat.le_refl _)
      rw [← st_step h (by omega)] at z
      rw [show (r + 1) * bs.length + 0 = r * bs.length + bs.length by rw [Nat.add_mul, Nat.one_mul]; omega, z]
      show st bs ds ks ((r : Int) + 1) = st bs ds ks (((r + 1 : Nat)) : Int)
      congr 1
    | succ i ih =>
      have e : ((r + 1) * bs.length + i) % bs.length = i := by rw [Nat.mul_comm, Nat.mul_add_mod, Nat.mod_eq_of_lt (by omega)]
      rw [show (r + 1) * bs.length + (i + 1) = ((r + 1) * bs.length + i) + 1 by omega]
      show stp (dayS bs ds ks ((r + 1) * bs.length + i)) _ _ _ = stp (stkAt bs ds ks _ i) _ _ _
      rw [e, ih (by omega)]
theorem day_split (t n : Nat) (hn : 0 < n) : ((t : Int) / (n : Int)) = ((t / n : Nat) : Int) ∧ ((t : Int) % (n : Int)).toNat = t % n := by
  constructor
  · exact (Int.natCast_ediv t n).symm
  · have := Int.natCast_emod t n; omega
theorem stock_is (h : CoM bs ds ks) (t : Nat) : stockI bs ds ks (gainOf bs ds) (firstOf bs ds ks) (fullOf bs ds ks) (t : Int) = dayS bs ds ks t := by
  have hn := h.gd.n0
  obtain ⟨e1, e2⟩ := day_split t bs.length hn
  unfold stockI
  rw [e1, e2]
  have z := dayS_round h (t / bs.length) (t % bs.length) (Nat.le_of_lt (Nat.mod_lt _ hn))
  rw [show t / bs.length * bs.length + t % bs.length = t by rw [Nat.mul_comm]; exact Nat.div_add_mod _ _] at z
  exact z.symm
theorem end_is (h : CoM bs ds ks) (t : Nat) : endI bs ds ks (gainOf bs ds) (firstOf bs ds ks) (fullOf bs ds ks) (t : Int) = dayS bs ds ks (t + 1) := by
  have hn := h.gd.n0
  obtain ⟨e1, e2⟩ := day_split t bs.length hn
  unfold endI
  rw [e1, e2]
  have z := dayS_round h (t / bs.length) (t % bs.length + 1) (Nat.mod_lt _ hn)
  rw [show t / bs.length * bs.length + (t % bs.length + 1) = t + 1 by have := Nat.div_add_mod t bs.length; rw [Nat.mul_comm]; omega] at z
  exact z.symm
theorem dayS_nn (h : CoM bs ds ks) (t : Nat) : 0 ≤ dayS bs ds ks t := by
  cases t with
  | zero => exact Int.le_refl _
  | succ t => exact stp_nn (h.kn _)
/-- the stock is never less than a round before -/
theorem dayS_le (h : CoM bs ds ks) (t : Nat) : dayS bs ds ks t ≤ dayS bs ds ks (t + bs.length) := by
  induction t with
  | zero => exact dayS_nn h _
  | succ t ih =>
    rw [show t + 1 + bs.length = (t + bs.length) + 1 by omega]
    show stp _ _ _ _ ≤ stp _ _ _ _
    rw [Nat.add_mod_right]
    unfold stp; omega
theorem dayS_same {t : Nat} (e : dayS bs ds ks t = dayS bs ds ks (t + bs.length)) (u : Nat) : dayS bs ds ks (t + u) = dayS bs ds ks (t + u + bs.length) := by
  induction u with
  | zero => exact e
  | succ u ih =>
    rw [show t + (u + 1) + bs.length = (t + u + bs.length) + 1 by omega, show t + (u + 1) = (t + u) + 1 by omega]
    show stp _ _ _ _ = stp _ _ _ _
    rw [Nat.add_mod_right, ih]
/-! ### the settled day -/
theorem least {p : Nat → Prop} : ∀ n, p n → ∃ m, m ≤ n ∧ p m ∧ ∀ j, j < m → ¬ p j := by
  intro n
  induction n using Nat.strongRecOn with
  | ind n ih =>
    intro hp
    by_cases q : ∃ j, j < n ∧ p j
    · obtain ⟨j, hj, hpj⟩ := q
      obtain ⟨m, a, b, c⟩ := ih j hj hpj
      exact ⟨m, by omega, b, c⟩
    · exact ⟨n, Nat.le_refl _, hp, fun j hj hpj => q ⟨j, hj, hpj⟩⟩
abbrev grw (bs ds ks : List Int) : Int := growing (gainOf bs ds) (firstOf bs ds ks) (fullOf bs ds ks)
theorem first_le (h : CoM bs ds ks) : firstOf bs ds ks ≤ fullOf bs ds ks := by
  obtain ⟨lo, a, b, c⟩ := round_clamp h
  have hf : firstOf bs ds ks = min (fullOf bs ds ks) (max lo (0 + (bs.sum - ds.sum))) := c 0
  omega
/-- how the growing rounds are counted -/
theorem grw_props (h : CoM bs ds ks) : 0 ≤ grw bs ds ks ∧ fullOf bs ds ks ≤ firstOf bs ds ks + grw bs ds ks * gainOf bs ds ∨ gainOf bs ds = 0 ∧ grw bs ds ks = 0 := by
  have hg := h.gainb.1
  have hl := first_le h
  by_cases g0 : gainOf bs ds = 0
  · exact .inr ⟨g0, by unfold grw growing; rw [if_pos g0]⟩
  · left
    have gp : 0 < gainOf bs ds := by omega
    unfold grw growing
    rw [if_neg g0]
    have e := Int.ediv_mul_le (firstOf bs ds ks - fullOf bs ds ks) g0
    have q : (firstOf bs ds ks - fullOf bs ds ks) / gainOf bs ds ≤ 0 := by
      have := Int.ediv_le_ediv gp (show firstOf bs ds ks - fullOf bs ds ks ≤ 0 by omega)
      simpa using this
    rw [Int.neg_mul]
    omega
theorem grw_nn (h : CoM bs ds ks) : 0 ≤ grw bs ds ks := by
  rcases grw_props h with z | z <;> omega
theorem grw_end (h : CoM bs ds ks) : st bs ds ks (grw bs ds ks + 1) = st bs ds ks (grw bs ds ks + 2) := by
  have hn := grw_nn h
  rw [st_pos (by omega), st_pos (by omega)]
  rw [show grw bs ds ks + 1 - 1 = grw bs ds ks by omega, show grw bs ds ks + 2 - 1 = grw bs ds ks + 1 by omega, Int.add_mul, Int.one_mul]
  have hg := h.gainb.1
  rcases grw_props h with z | z
  · generalize grw bs ds ks * gainOf bs ds = t at z ⊢
    omega
  · rw [z.1]; simp
theorem set_ex (h : CoM bs ds ks) : ∃ i, SetAt bs ds ks (gainOf bs ds) (firstOf bs ds ks) (fullOf bs ds ks) i := by
  have hn := grw_nn h
  have e : stkAt bs ds ks (st bs ds ks (grw bs ds ks)) bs.length = stkAt bs ds ks (st bs ds ks (grw bs ds ks + 1)) bs.length := by
    rw [← st_step h hn, ← st_step h (by omega)]
    rw [show grw bs ds ks + 1 + 1 = grw bs ds ks + 2 by omega]
    exact grw_end h
  obtain ⟨m, a, b, c⟩ := least (p := fun i => stkAt bs ds ks (st bs ds ks (grw bs ds ks)) i = stkAt bs ds ks (st bs ds ks (grw bs ds ks + 1)) i) bs.length e
  exact ⟨m, a, b, c⟩
end
end Sw
namespace Sw
section
variable {bs ds ks : List Int}
/-! ### from the settled day on -/
theorem settled_same (h : CoM bs ds ks) {i : Nat} (hi : SetAt bs ds ks (gainOf bs ds) (firstOf bs ds ks) (fullOf bs ds ks) i) {t : Nat} (ht : grw bs ds ks * (bs.length : Int) + (i : Int) ≤ (t : Int)) :
    dayS bs ds ks t = dayS bs ds ks (t + bs.length) := by
  have hn := grw_nn h
  obtain ⟨R, hR⟩ : ∃ R : Nat, grw bs ds ks = (R : Int) := ⟨(grw bs ds ks).toNat, by omega⟩
  obtain ⟨a, b, c⟩ := hi
  change stkAt bs ds ks (st bs ds ks (grw bs ds ks)) i = stkAt bs ds ks (st bs ds ks (grw bs ds ks + 1)) i at b
  rw [hR] at b ht
  rw [← dayS_round h R i a, show ((R : Int) + 1) = ((R + 1 : Nat) : Int) by omega, ← dayS_round h (R + 1) i a, show (R + 1) * bs.length + i = R * bs.length + i + bs.length by rw [Nat.add_mul, Nat.one_mul]; omega] at b
  have e : (R : Int) * (bs.length : Int) = ((R * bs.length : Nat) : Int) := by rw [Int.natCast_mul]
  rw [e] at ht
  obtain ⟨u, rfl⟩ : ∃ u, t = R * bs.length + i + u := ⟨t - (R * bs.length + i), by omega⟩
  exact dayS_same b u
theorem settled_least (h : CoM bs ds ks) {i : Nat} (hi : SetAt bs ds ks (gainOf bs ds) (firstOf bs ds ks) (fullOf bs ds ks) i) {t : Nat} (ht : grw bs ds ks * (bs.length : Int) + (i : Int) = (t : Int) + 1) :
    dayS bs ds ks t ≠ dayS bs ds ks (t + bs.length) := by
  have hn := grw_nn h
  obtain ⟨R, hR⟩ : ∃ R : Nat, grw bs ds ks = (R : Int) := ⟨(grw bs ds ks).toNat, by omega⟩
  obtain ⟨a, b, c⟩ := hi
  change stkAt bs ds ks (st bs ds ks (grw bs ds ks)) i = stkAt bs ds ks (st bs ds ks (grw bs ds ks + 1)) i at b
  have e : (R : Int) * (bs.length : Int) = ((R * bs.length : Nat) : Int) := by rw [Int.natCast_mul]
  rw [hR, e] at ht
  cases i with
  | succ i =>
    have q := c i (Nat.lt_succ_self i)
    change stkAt bs ds ks (st bs ds ks (grw bs ds ks)) i ≠ stkAt bs ds ks (st bs ds ks (grw bs ds ks + 1)) i at q
    rw [hR, ← dayS_round h R i (by omega), show ((R : Int) + 1) = ((R + 1 : Nat) : Int) by omega, ← dayS_round h (R + 1) i (by omega), show (R + 1) * bs.length + i = R * bs.length + i + bs.length by rw [Nat.add_mul, Nat.one_mul]; omega] at q
    rwa [show t = R * bs.length + i by omega]
  | zero =>
    exfalso
    have b' : st bs ds ks (grw bs ds ks) = st bs ds ks (grw bs ds ks + 1) := b
    have hg := h.gainb.1
    have hl := first_le h
    have hR0 : R ≠ 0 := by
      intro z; subst z
      simp at ht; omega
    have g0 : ¬ gainOf bs ds = 0 := by
      intro z
      have : grw bs ds ks = 0 := by unfold grw growing; rw [if_pos z]
      omega
    have gp : 0 < gainOf bs ds := by omega
    rw [st_pos (by omega), st_pos (by omega), show grw bs ds ks + 1 - 1 = grw bs ds ks by omega, Int.sub_mul, Int.one_mul] at b'
    have ee : grw bs ds ks = -((firstOf bs ds ks - fullOf bs ds ks) / gainOf bs ds) := by unfold grw growing; rw [if_neg g0]
    have q1 := Int.lt_ediv_add_one_mul_self (firstOf bs ds ks - fullOf bs ds ks) gp
    have q2 : grw bs ds ks * gainOf bs ds = -((firstOf bs ds ks - fullOf bs ds ks) / gainOf bs ds * gainOf bs ds) := by rw [ee, Int.neg_mul]
    rw [Int.add_mul, Int.one_mul] at q1
    rcases grw_props h with z | z
    · generalize grw bs ds ks * gainOf bs ds = t1 at *
      generalize (firstOf bs ds ks - fullOf bs ds ks) / gainOf bs ds * gainOf bs ds = t2 at *
      omega
    · omega
/-! ### sums over days -/
def psum (f : Nat → Int) : Nat → Int
  | 0 => 0
  | t + 1 => psum f t + f t
theorem psum_add (f : Nat → Int) (a b : Nat) : psum f (a + b) = psum f a + psum (fun j => f (a + j)) b := by
  induction b with
  | zero => simp [psum]
  | succ b ih =>
    show psum f (a + b) + f (a + b) = _
    rw [ih]
    show _ = psum f a + (psum (fun j => f (a + j)) b + f (a + b))
    omega
theorem psum_congr {f g : Nat → Int} {n : Nat} (h : ∀ j, j < n → f j = g j) : psum f n = psum g n := by
  induction n with
  | zero => rfl
  | succ n ih =>
    show psum f n + f n = psum g n + g n
    rw [ih fun j hj => h j (by omega), h n (by omega)]
theorem psum_zero (n : Nat) : psum (fun _ => 0) n = 0 := by
  induction n with
  | zero => rfl
  | succ n ih => show psum _ n + 0 = 0; rw [ih]; rfl
theorem psum_sub (f g : Nat → Int) (n : Nat) : psum (fun j => f j - g j) n = psum f n - psum g n := by
  induction n with
  | zero => simp [psum]
  | succ n ih => show psum _ n + (f n - g n) = psum f n + f n - (psum g n + g n); rw [ih]; omega
theorem psum_take (xs : List Int) : ∀ n, (xs.take n).sum = psum (fun j => xs.getD j 0) n := by
  intro n
  induction n with
  | zero => simp [psum]
  | succ n ih => rw [sum_take_succ, ih]; rfl
theorem psum_sum (xs : List Int) : psum (fun j => xs.getD j 0) xs.length = xs.sum := by rw [← psum_take, List.take_length]
/-- a function that repeats after n, summed up over windows of n -/
theorem window {f : Nat → Int} {n a : Nat} (hf : ∀ t, a ≤ t → f (t + n) = f t) (u : Nat) : psum (fun j => f (a + u + j)) n = psum (fun j => f (a + j)) n := by
  induction u with
  | zero => rfl
  | succ u ih =>
    have e1 := psum_add (fun j => f (a + u + j)) 1 n
    have e2 := psum_add (fun j => f (a + u + j)) n 1
    rw [Nat.add_comm 1 n] at e1
    have e3 : psum (fun j => f (a + u + j)) 1 = f (a + u) := by show 0 + f (a + u + 0) = _; simp
    have e4 : psum (fun j => f (a + u + (n + j))) 1 = f (a + u + n) := by show 0 + f (a + u + (n + 0)) = _; simp
    have e5 : psum (fun j => f (a + u + (1 + j))) n = psum (fun j => f (a + (u + 1) + j)) n := psum_congr fun j _ => by congr 1; omega
    have e6 := hf (a + u) (by omega)
    rw [e3, e5] at e1
    rw [e4] at e2
    omega
theorem rounds_psum {f : Nat → Int} {n a : Nat} (hf : ∀ t, a ≤ t → f (t + n) = f t) (T : Nat) : psum f (a + T * n) = psum f a + (T : Int) * psum (fun j => f (a + j)) n := by
  induction T with
  | zero => simp
  | succ T ih =>
    rw [show a + (T + 1) * n = (a + T * n) + n by rw [Nat.add_mul, Nat.one_mul]; omega, psum_add, ih]
    have := window hf (T * n)
    rw [this]
    have : ((T + 1 : Nat) : Int) = (T : Int) + 1 := by omega
    rw [this, Int.add_mul, Int.one_mul]
    omega
theorem sumRep_psum (am : List Int) (h : 0 < am.length) (m : Nat) : sumRep am (m : Int) = psum (fun j => am.getD (j % am.length) 0) m := by
  obtain ⟨e1, e2⟩ := day_split m am.length h
  unfold sumRep
  rw [e1, e2]
  have hp : ∀ t, 0 ≤ t → (fun j => am.getD (j % am.length) 0) (t + am.length) = (fun j => am.getD (j % am.length) 0) t := fun t _ => by simp [Nat.add_mod_right]
  have z := rounds_psum (f := fun j => am.getD (j % am.length) 0) (n := am.length) (a := 0) hp (m / am.length)
  have e : m = (0 + m / am.length * am.length) + m % am.length := by have := Nat.div_add_mod m am.length; rw [Nat.mul_comm] at this; omega
  have w : psum (fun j => am.getD (j % am.length) 0) m = psum (fun j => am.getD (j % am.length) 0) (0 + m / am.length * am.length) + psum (fun j => (fun j => am.getD (j % am.length) 0) (0 + m / am.length * am.length + j)) (m % am.length) := by
    rw [← psum_add, ← e]
  rw [w, z]
  have q1 : psum (fun j => (fun j => am.getD (j % am.length) 0) (0 + j)) am.length = am.sum := by
    rw [← psum_sum]
    exact psum_congr fun j hj => by simp [Nat.mod_eq_of_lt hj]
  have q2 : psum (fun j => (fun j => am.getD (j % am.length) 0) (0 + m / am.length * am.length + j)) (m % am.length) = (am.take (m % am.length)).sum := by
    rw [psum_take]
    refine psum_congr fun j hj => ?_
    have hlt := Nat.mod_lt m h
    show am.getD ((0 + m / am.length * am.length + j) % am.length) 0 = _
    rw [Nat.zero_add, Nat.mul_comm, Nat.mul_add_mod, Nat.mod_eq_of_lt (by omega)]
  rw [q1, q2]
  show _ = 0 + _ + _
  omega
/-! ### a day's sales -/
def bk (bs : List Int) (t : Nat) : Int := bs.getD (t % bs.length) 0
def dm (bs ds : List Int) (t : Nat) : Int := ds.getD (t % bs.length) 0
def misS (bs ds ks : List Int) (t : Nat) : Int := max 0 (dm bs ds t - dayS bs ds ks t - bk bs t)
def solS (bs ds ks : List Int) (t : Nat) : Int := dm bs ds t - misS bs ds ks t
def thrS (bs ds ks : List Int) (t : Nat) : Int := bk bs t - solS bs ds ks t - (dayS bs ds ks (t + 1) - dayS bs ds ks t)
theorem sales_is (h : CoM bs ds ks) (t : Nat) : salesI bs ds ks (gainOf bs ds) (firstOf bs ds ks) (fullOf bs ds ks) (t : Int) = [solS bs ds ks t, misS bs ds ks t, thrS bs ds ks t] := by
  have hn := h.gd.n0
  obtain ⟨e1, e2⟩ := day_split t bs.length hn
  have es : soldI bs ds ks (gainOf bs ds) (firstOf bs ds ks) (fullOf bs ds ks) (t : Int) = solS bs ds ks t := by
    unfold soldI
    rw [stock_is h, e2]
    unfold solS misS dm bk
    omega
  unfold salesI
  rw [es, stock_is h, end_is h, e2]
  unfold thrS
  congr 1
  congr 1
  · unfold solS dm; omega
  · congr 1
    unfold bk
    omega
theorem misS_le (h : CoM bs ds ks) (t : Nat) : misS bs ds ks (t + bs.length) ≤ misS bs ds ks t := by
  have z := dayS_le h t
  unfold misS dm bk
  rw [Nat.add_mod_right]
  omega
/-- behind the first round each round misses the same -/
theorem misS_round (h : CoM bs ds ks) {t : Nat} (ht : bs.length ≤ t) : misS bs ds ks (t + bs.length) = misS bs ds ks t := by
  have z := misS_le h t
  have m0 : 0 ≤ misS bs ds ks (t + bs.length) := by unfold misS; omega
  by_cases hm : misS bs ds ks t ≤ 0
  · omega
  · obtain ⟨u, rfl⟩ : ∃ u, t = u + bs.length := ⟨t - bs.length, by omega⟩
    have e1 : dayS bs ds ks (u + bs.length + 1) = 0 := by
      show stp _ _ _ _ = 0
      have := h.kn ((u + bs.length) % bs.length)
      unfold misS dm bk at hm
      unfold stp
      omega
    have e2 := dayS_le h (u + 1)
    have e3 := dayS_nn h (u + 1)
    rw [show u + 1 + bs.length = u + bs.length + 1 by omega, e1] at e2
    have e4 : dayS bs ds ks (u + 1) = dayS bs ds ks (u + 1 + bs.length) := by rw [show u + 1 + bs.length = u + bs.length + 1 by omega, e1]; omega
    have hn := h.gd.n0
    have e5 := dayS_same e4 (bs.length - 1)
    rw [show u + 1 + (bs.length - 1) = u + bs.length by omega] at e5
    unfold misS dm bk
    rw [Nat.add_mod_right, ← e5]
theorem fm_get (h : CoM bs ds ks) {j : Nat} (hj : j < bs.length) : (fmOf bs ds ks).getD j 0 = misS bs ds ks j := by
  unfold fmOf missL
  have hl := h.gd.ld
  have e : ((List.range ds.length).map fun i => max 0 (ds.getD i 0 - (stkL bs ds ks (start1 (gainOf bs ds) (firstOf bs ds ks) (fullOf bs ds ks) 0)).getD i 0 - bs.getD i 0)).getD j 0 =
      max 0 (ds.getD j 0 - (stkL bs ds ks (start1 (gainOf bs ds) (firstOf bs ds ks) (fullOf bs ds ks) 0)).getD j 0 - bs.getD j 0) := by
    simp [List.getD, List.getElem?_range (show j < ds.length by omega)]
  rw [e, stkL_get (by omega)]
  have q := dayS_round h 0 j (by omega)
  rw [Nat.zero_mul, Nat.zero_add] at q
  have q' : stkAt bs ds ks (start1 (gainOf bs ds) (firstOf bs ds ks) (fullOf bs ds ks) 0) j = dayS bs ds ks j := q.symm
  rw [q']
  unfold misS dm bk
  rw [Nat.mod_eq_of_lt hj]
theorem lm_get (h : CoM bs ds ks) {j : Nat} (hj : j < bs.length) : (lmOf bs ds ks).getD j 0 = misS bs ds ks (bs.length + j) := by
  unfold lmOf missL
  have hl := h.gd.ld
  have e : ((List.range ds.length).map fun i => max 0 (ds.getD i 0 - (stkL bs ds ks (start1 (gainOf bs ds) (firstOf bs ds ks) (fullOf bs ds ks) 1)).getD i 0 - bs.getD i 0)).getD j 0 =
      max 0 (ds.getD j 0 - (stkL bs ds ks (start1 (gainOf bs ds) (firstOf bs ds ks) (fullOf bs ds ks) 1)).getD j 0 - bs.getD j 0) := by
    simp [List.getD, List.getElem?_range (show j < ds.length by omega)]
  rw [e, stkL_get (by omega)]
  have q := dayS_round h 1 j (by omega)
  rw [Nat.one_mul] at q
  have q' : stkAt bs ds ks (start1 (gainOf bs ds) (firstOf bs ds ks) (fullOf bs ds ks) 1) j = dayS bs ds ks (bs.length + j) := q.symm
  rw [q']
  unfold misS dm bk
  rw [Nat.add_mod_left, Nat.mod_eq_of_lt hj]
theorem fm_len (h : CoM bs ds ks) : (fmOf bs ds ks).length = bs.length := by unfold fmOf; rw [missL_len]; exact h.gd.ld
theorem lm_len (h : CoM bs ds ks) : (lmOf bs ds ks).length = bs.length := by unfold lmOf; rw [missL_len]; exact h.gd.ld
theorem lm_sum (h : CoM bs ds ks) : (lmOf bs ds ks).sum = psum (fun j => misS bs ds ks (bs.length + j)) bs.length := by
  rw [← psum_sum, lm_len h]
  exact psum_congr fun j hj => lm_get h hj
theorem missed_is (h : CoM bs ds ks) (t : Nat) : missedI bs (fmOf bs ds ks) (lmOf bs ds ks) (t : Int) = psum (misS bs ds ks) t := by
  have hn := h.gd.n0
  unfold missedI
  rw [Int.toNat_natCast, psum_take]
  by_cases ht : t ≤ bs.length
  · have e : max 0 ((t : Int) - (bs.length : Int)) = ((0 : Nat) : Int) := by omega
    rw [e, sumRep_psum _ (by rw [lm_len h]; exact hn)]
    show _ + 0 = _
    rw [Int.add_zero]
    exact psum_congr fun j hj => fm_get h (by omega)
  · obtain ⟨u, rfl⟩ : ∃ u, t = bs.length + u := ⟨t - bs.length, by omega⟩
    have e : max 0 (((bs.length + u : Nat) : Int) - (bs.length : Int)) = (u : Int) := by omega
    rw [e, sumRep_psum _ (by rw [lm_len h]; exact hn), psum_add, psum_add]
    have z1 : psum (fun j => (fmOf bs ds ks).getD j 0) bs.length = psum (misS bs ds ks) bs.length := psum_congr fun j hj => fm_get h hj
    have z2 : psum (fun j => (fmOf bs ds ks).getD (bs.length + j) 0) u = 0 := by
      have : psum (fun j => (fmOf bs ds ks).getD (bs.length + j) 0) u = psum (fun _ => 0) u := psum_congr fun j _ => by
        simp [List.getD, List.getElem?_eq_none (show (fmOf bs ds ks).length ≤ bs.length + j by rw [fm_len h]; omega)]
      rw [this, psum_zero]
    have z3 : psum (fun j => (lmOf bs ds ks).getD (j % (lmOf bs ds ks).length) 0) u = psum (fun j => misS bs ds ks (bs.length + j)) u := by
      refine psum_congr fun j _ => ?_
      rw [lm_len h, lm_get h (Nat.mod_lt _ hn)]
      have q : ∀ k r, misS bs ds ks (bs.length + (r + k * bs.length)) = misS bs ds ks (bs.length + r) := by
        intro k r
        induction k with
        | zero => simp
        | succ k ih =>
          rw [show bs.length + (r + (k + 1) * bs.length) = bs.length + (r + k * bs.length) + bs.length by rw [Nat.add_mul, Nat.one_mul]; omega, misS_round h (by omega), ih]
      have w := q (j / bs.length) (j % bs.length)
      rw [show j % bs.length + j / bs.length * bs.length = j by rw [Nat.mul_comm]; exact Nat.mod_add_div _ _] at w
      exact w.symm
    rw [z1, z2, z3]; omega
theorem bk_sum (h : CoM bs ds ks) (t : Nat) : sumRep bs (t : Int) = psum (bk bs) t := sumRep_psum bs h.gd.n0 t
theorem dm_sum (h : CoM bs ds ks) (t : Nat) : sumRep ds (t : Int) = psum (dm bs ds) t := by
  rw [sumRep_psum ds (by have := h.gd.n0; have := h.gd.ld; omega) t]
  exact psum_congr fun j _ => by unfold dm; rw [h.gd.ld]
theorem thr_sum (t : Nat) : psum (thrS bs ds ks) t = psum (bk bs) t - psum (solS bs ds ks) t - dayS bs ds ks t := by
  induction t with
  | zero => simp [psum, dayS]
  | succ t ih => show psum _ t + thrS bs ds ks t = (psum _ t + bk bs t) - (psum _ t + solS bs ds ks t) - _; rw [ih]; unfold thrS; omega
/-- totals are the sums of the days -/
theorem tot_is (h : CoM bs ds ks) (t : Nat) : totI bs ds ks (gainOf bs ds) (firstOf bs ds ks) (fullOf bs ds ks) (fmOf bs ds ks) (lmOf bs ds ks) (t : Int) =
    [psum (solS bs ds ks) t, psum (misS bs ds ks) t, psum (thrS bs ds ks) t] := by
  have e : psum (solS bs ds ks) t = psum (dm bs ds) t - psum (misS bs ds ks) t := psum_sub _ _ _
  unfold totI
  rw [missed_is h, dm_sum h, bk_sum h, stock_is h, thr_sum, e]
/-! ### the long run -/
theorem long_is (h : CoM bs ds ks) {D : Nat} (hD : ∀ t, D ≤ t → dayS bs ds ks t = dayS bs ds ks (t + bs.length)) :
    longI bs ds (lmOf bs ds ks) = [psum (fun j => solS bs ds ks (D + j)) bs.length, psum (fun j => misS bs ds ks (D + j)) bs.length, psum (fun j => thrS bs ds ks (D + j)) bs.length] := by
  have hmD : ∀ t, D ≤ t → misS bs ds ks (t + bs.length) = misS bs ds ks t := fun t ht => by
    unfold misS dm bk; rw [Nat.add_mod_right, ← hD t ht]
  have hmN : ∀ t, bs.length ≤ t → misS bs ds ks (t + bs.length) = misS bs ds ks t := fun t ht => misS_round h ht
  have m1 := window hmD bs.length
  have m2 := window hmN D
  rw [Nat.add_comm D] at m1
  have em : psum (fun j => misS bs ds ks (D + j)) bs.length = (lmOf bs ds ks).sum := by rw [lm_sum h, ← m1, ← m2]
  have hb : ∀ t, 0 ≤ t → bk bs (t + bs.length) = bk bs t := fun t _ => by unfold bk; rw [Nat.add_mod_right]
  have hd : ∀ t, 0 ≤ t → dm bs ds (t + bs.length) = dm bs ds t := fun t _ => by unfold dm; rw [Nat.add_mod_right]
  have b1 := window (n := bs.length) (a := 0) hb D
  have d1 := window (n := bs.length) (a := 0) hd D
  simp only [Nat.zero_add] at b1 d1
  have b2 : psum (fun j => bk bs j) bs.length = bs.sum := by rw [← psum_sum]; exact psum_congr fun j hj => by unfold bk; rw [Nat.mod_eq_of_lt hj]
  have d2 : psum (fun j => dm bs ds j) bs.length = ds.sum := by
    rw [← psum_sum, h.gd.ld]; exact psum_congr fun j hj => by unfold dm; rw [Nat.mod_eq_of_lt hj]
  have es : psum (fun j => solS bs ds ks (D + j)) bs.length = ds.sum - (lmOf bs ds ks).sum := by
    have : psum (fun j => solS bs ds ks (D + j)) bs.length = psum (fun j => dm bs ds (D + j)) bs.length - psum (fun j => misS bs ds ks (D + j)) bs.length := psum_sub _ _ _
    rw [this, em, d1, d2]
  have et : psum (fun j => thrS bs ds ks (D + j)) bs.length = bs.sum - (ds.sum - (lmOf bs ds ks).sum) := by
    have t1 := psum_add (thrS bs ds ks) D bs.length
    rw [thr_sum, thr_sum, psum_add, psum_add] at t1
    rw [← hD D (Nat.le_refl _), es, b1, b2] at t1
    omega
  unfold longI
  rw [em, es, et]
end
end Sw
namespace Sw
open PySem PySem.Spec PyProof.Rows L2 Evl
local macro_rules | `(tactic| walk_at "ev") => `(tactic| first
  | exact ev_c
  | exact ev_var rfl
  | ((with_reducible show Ev (tCB rMax2 _) _ _ _); exact ev_maxi (by walk_at "ev") (by walk_at "ev"))
  | ((with_reducible show Ev (tCB rMn _) _ _ _); exact ev_min2 (by walk_at "ev") (by walk_at "ev"))
  | ((with_reducible show Ev (tUn _ _) _ _ _); exact ev_un (by walk_at "ev") ru_neg)
  | ((with_reducible show Ev (tFld _ _ _) _ _ _); exact ev_fldK (by walk_at "ev") (by assumption))
  | ((with_reducible show Ev (tOp (rI0 _) _ _) _ _ _); exact ev_op (by walk_at "ev") (by walk_at "ev") rv_I0)
  | ((with_reducible show Ev (tOp rEq _ _) _ _ _); exact ev_op (by walk_at "ev") (by walk_at "ev") (rv_eq rfl))
  | ((with_reducible show Ev (tOp rNe _ _) _ _ _); exact ev_op (by walk_at "ev") (by walk_at "ev") (rv_ne rfl)))

section
variable {K : PySem.W.Frag} {σ : L2.St} {H H' : Hp} {ta tb te tx : TE} {x y z v : V} {a c : Addr} {xs : List V}
theorem ev_cval {C : Addr} {mc u : Value} {f : Str} (h : Ev ta σ H (.ref C)) (hc : ClX.CRead K C mc) (cv : ClX.CVal K C mc f v u) : Ev (ClX.tCVal K ta f) σ H v := fun H1 e Q q =>
  h H1 e _ fun H2 e2 => ⟨C, mc, v, u, rfl, hc, cv, q H2 e2⟩
def rTupS (K : PySem.W.Frag) : List V → Hp → VK → Prop := fun xs H Q => ∃ p ys, xs = [.ref p] ∧ ((SqL K H p ys ∧ ∀ l, H l = none → Q (.ref l) (upd H l (.tup ys))) ∨ (SqT K H p ys ∧ Q (.ref p) H))
theorem ev_tupT (h : Ev ta σ H (.ref a)) (hx : SqT K H a xs) : Ev (tCB (rTupS K) (tCons ta tNil)) σ H (.ref a) := fun H1 e Q q =>
  h H1 e _ fun H2 e2 => ⟨a, xs, rfl, .inr ⟨ex_t (e.trans e2) hx, q H2 e2⟩⟩
theorem eu_tupL (h : EvL ta σ H xs) : EvU (tCB (rTupS K) (tCons ta tNil)) σ H xs := fun H1 e Q q =>
  h H1 e _ fun p H2 _ e2 h2 => ⟨p, xs, rfl, .inl ⟨sq_of h2, fun l hl => q l _ (fresh_back e2 hl) (e2.trans (Ex.new hl)) upd_same⟩⟩
/-- what is handed back is some new object with P, seen apart from what M names -/
def EvR (te : TE) (σ : L2.St) (H : Hp) (M : Addr → Prop) (P : Addr → Hp → Prop) : Prop := ∀ H1, Ex H H1 → (∀ b, M b → H1 b ≠ none) → ∀ Q : VK, (∀ p H2, H1 p = none → Ex H1 H2 → P p (wn H2 M) → Q (.ref p) H2) → te σ H1 Q
end
theorem q_selfR {K : PySem.W.Frag} {σ : L2.St} {H : Hp} {ta te : TE} {a C dx : Addr} {fs : List (Str × V)} {f : Str} {D : Ends} {tz : TS} {M : Addr → Prop} {Pr : Addr → Hp → Prop} (ha : M a) (kn : ∀ b, M b → H b ≠ none) (h : EvR te σ H M Pr) (ho : ∀ H1, Ex H H1 → Ev ta σ H1 (.ref a)) (hx : H a = some (.ins C dx fs)) (c : Cls K C) (n : NoAttr K C f) (hl : fs.length < 1000)
    (hm : ∀ p H1 H2, Ex H1 H2 → Pr p H1 → Pr p H2)
    (k : ∀ (p : Addr) (S : Hp), Pr p (wn S M) → S a = some (.ins C dx (putF f (.ref p) fs)) → Go M a H S → tz D σ S) : tSeq (sFld K ta te f) tz D σ H :=
  h H (Ex.refl H) kn _ fun p H1 hp e1 hP => ho H1 e1 H1 (Ex.refl H1) _ fun H2 e2 => ⟨a, C, dx, fs, rfl, e2 _ _ (e1 _ _ hx), c, n, hl,
    k p _ (hm _ _ _ ((wn_mono e2).trans (wn_upd ha)) hP) upd_same (Go.up ha kn (e1.trans e2))⟩
/-! ### the checks, where nothing is wrong -/
variable {P : Program} {w : World} {K : PySem.W.Frag} {mg : Str → Option Value} {base : Heap} {Z : Ad}
def sp_num : Sp := fun vs H Q _ => ∃ n lo hi : Int, vs = [.int n, .int lo, .int hi] ∧ lo ≤ n ∧ n ≤ hi ∧ RetV .non H Q
theorem spv_num {H : Hp} {n lo hi : Int} (h1 : lo ≤ n) (h2 : n ≤ hi) : SpV sp_num [.int n, .int lo, .int hi] H .non := fun _ _ _ q _ => ⟨n, lo, hi, rfl, h1, h2, q⟩
theorem ok_check_number (T : Txt K mg Z) : FnOk P w K mg base CX0 1 Z.f_check_number Z.d_check_number p_check_number sp_num := by
  refine T.F_check_number.ok sc_check_number (fun vs H Q E h => ?_) (fun cdv Ar outer s H vs Q E hr h => ?_)
  · obtain ⟨n, lo, hi, rfl, _⟩ := h
    rfl
  · obtain ⟨n, lo, hi, rfl, h1, h2, k⟩ := h
    refine ⟨_, (pss_one (ps_if (PW.pt (pw_or (pt_cmpR op_lt (pv 0) (pv 1) (nomark _)) (pw_or1 (pt_cmpR op_gt (pv 0) (pv 2) (nomark _))))) (pss_one ps_no) pss_nil)), ?_⟩
    refine s_when (b := false) (et_is (et_or (et_test (by walk_at "ev")) fun _ => et_test (by walk_at "ev")) (by simp; omega)) (fun hb => nomatch hb) fun _ H1 e1 => k H1 e1
def sp_amounts (K : PySem.W.Frag) : Sp := fun vs H Q _ => ∃ (s : Str) (a : Addr) (am : List Int), vs = [.str s, .ref a] ∧ SqT K H a (am.map V.int) ∧ am.length ≤ 24 ∧ (∀ x ∈ am, 0 ≤ x ∧ x ≤ 1000000000) ∧ RetV .non H Q
theorem spv_amounts {H : Hp} {s : Str} {a : Addr} {am : List Int} (h : SqT K H a (am.map V.int)) (h1 : am.length ≤ 24) (h2 : ∀ x ∈ am, 0 ≤ x ∧ x ≤ 1000000000) : SpV (sp_amounts K) [.str s, .ref a] H .non := fun _ e _ q _ => ⟨s, a, am, rfl, ex_t e h, h1, h2, q⟩
theorem ok_check_amounts (T : Txt K mg Z) : FnOk P w K mg base CX0 1 Z.f_check_amounts Z.d_check_amounts p_check_amounts (sp_amounts K) := by
  refine T.F_check_amounts.ok sc_check_amounts (fun vs H Q E h => ?_) (fun cdv Ar outer s H vs Q E hr h => ?_)
  · obtain ⟨s, a, am, rfl, _⟩ := h
    rfl
  · obtain ⟨s, a, am, rfl, hS, hl, hb, k⟩ := h
    obtain ⟨cr, u, cv⟩ := T.cv_Bakery_MAX_DAYS
    refine ⟨_, (pss_one (ps_for PassesOwn.never rfl (pi_enumTK K rfl (by rfl) T.b_enumerate (pa_cons (pv 1) pa_nil)) (by exact (pg_tupK K (n := 2) rfl rfl (pgs_cons (pg_name (i := 2) sc_check_amounts.nd rfl (Or.inl rfl)) (pgs_cons (pg_name (i := 3) sc_check_amounts.nd rfl (Or.inl rfl)) pgs_nil)))) (pss_one (ps_if (PW.pt (pw_or (pt_cmpR op_eq (pv 2) (ClX.pe_cval (pe_glob (v := .ref Z.c_Bakery) (by rfl) T.g_Bakery rfl) rfl) (nomark _)) (pw_or (pt_cmpR op_lt (pv 3) pe_int (nomark _)) (pw_or1 (pt_cmpR op_gt (pv 3) (pe_glob (v := .int 1000000000) (by rfl) T.g_MOST_LOAVES ⟨_, rfl⟩) (nomark _)))))) (pss_one ps_no) pss_nil)))), ?_⟩
    refine s_forEnT (ea_cons (ev_var rfl) ea_nil) hS (fun i σ' H' => (∃ x y, σ' = [some (.str s), some (.ref a), x, y]) ∧ Ex H H') (fun H1 e1 => ⟨⟨_, _, rfl⟩, e1⟩) (fun i σ' H' _ p => p.2) ?_ ?_
    · rintro i x σ' H' hx ⟨⟨_, _, rfl⟩, e1⟩ H2 e2
      obtain ⟨rfl, hi⟩ := at_map hx
      have hb' := getD_mem0 (i := i) hb
      refine s_when (b := false) (et_is (et_or (et_test (ev_op (ev_var rfl) (ev_cval ev_c cr cv) (rv_eq rfl))) fun _ => et_or (et_test (by walk_at "ev")) fun _ => et_test (by walk_at "ev")) ?_) (fun hb => nomatch hb) fun _ H3 e3 => ⟨⟨_, _, rfl⟩, (e1.trans e2).trans e3⟩
      have q : ¬ (V.int (i : Nat) = V.int 24) := fun z => by injection z with z; omega
      generalize am.getD i 0 = v at hb'
      simp [q]; omega
    · rintro σ' H' ⟨⟨_, _, rfl⟩, e1⟩
      exact k H' e1
def sp_life1 : Sp := fun vs H Q _ => ∃ life : Int, vs = [.int life] ∧ 1 ≤ life ∧ life ≤ 30 ∧ RetV .non H Q
theorem spv_life {H : Hp} {life : Int} (l0 : 1 ≤ life) (l1 : life ≤ 30) : SpV sp_life1 [.int life] H .non := fun _ e _ q _ => ⟨life, rfl, l0, l1, q⟩
theorem ok_check_life (T : Txt K mg Z) : FnOk P w K mg base CX0 1 Z.f_check_life Z.d_check_life p_check_life sp_life1 := by
  refine T.F_check_life.ok sc_check_life (fun vs H Q E h => ?_) (fun cdv Ar outer s H vs Q E hr h => ?_)
  · obtain ⟨life, rfl, _⟩ := h
    rfl
  · obtain ⟨life, rfl, l0, l1, k⟩ := h
    obtain ⟨cr, u, cv⟩ := T.cv_Bakery_MAX_LIFE
    refine ⟨_, (pss_one (ps_if (PW.pt (pw_or (pt_cmpR op_lt (pv 0) pe_int (nomark _)) (pw_or1 (pt_cmpR op_gt (pv 0) (ClX.pe_cval (pe_glob (v := .ref Z.c_Bakery) (by rfl) T.g_Bakery rfl) rfl) (nomark _))))) (pss_one ps_no) pss_nil)), ?_⟩
    refine s_when (b := false) (et_is (et_or (et_test (by walk_at "ev")) fun _ => et_test (ev_op (ev_var rfl) (ev_cval ev_c cr cv) rv_I0)) (by simp; omega)) (fun hb => nomatch hb) fun _ H5 e5 => k H5 e5
def sp_check (K : PySem.W.Frag) : Sp := fun vs H Q _ => ∃ (a b : Addr) (bs ds : List Int) (life : Int), vs = [.ref a, .ref b, .int life] ∧ SqT K H a (bs.map V.int) ∧ SqT K H b (ds.map V.int) ∧ Good bs ds ∧ 1 ≤ life ∧ life ≤ 30 ∧ RetV .non H Q
theorem ok_check_bakery (T : Txt K mg Z) : FnOk P w K mg base CX0 2 Z.f_check_bakery Z.d_check_bakery p_check_bakery (sp_check K) := by
  refine T.F_check_bakery.ok sc_check_bakery (fun vs H Q E h => ?_) (fun cdv Ar outer s H vs Q E hr h => ?_)
  · obtain ⟨a, b, bs, ds, life, rfl, _⟩ := h
    rfl
  · obtain ⟨a, b, bs, ds, life, rfl, hB, hD, gd, l0, l1, k⟩ := h
    have h0 := gd.n0
    have hn := gd.n1
    have hld := gd.ld
    have e24 : ((bs.map V.int).length : Int) = (bs.length : Int) := by rw [List.length_map]
    have e24' : ((ds.map V.int).length : Int) = (ds.length : Int) := by rw [List.length_map]
    refine ⟨_, (pss_cons (ps_expr (pe_call (ok_check_amounts T) (hr.mono (by decide)) (by rfl) T.g_check_amounts T.F_check_amounts.kp T.b_check_amounts .nil pass0 (pa_cons pe_str (pa_cons (pv 0) pa_nil))))
      (pss_cons (ps_if (pt_cmpR op_eq (pe_callB (r := rLenS K) (call_len_seq) (by rfl) T.b_len boot_len (pa_cons (pv 0) pa_nil)) pe_int (nomark _)) (pss_one ps_no) pss_nil)
      (pss_cons (ps_expr (pe_call (ok_check_amounts T) (hr.mono (by decide)) (by rfl) T.g_check_amounts T.F_check_amounts.kp T.b_check_amounts .nil pass0 (pa_cons pe_str (pa_cons (pv 1) pa_nil))))
      (pss_cons (ps_if (pt_cmpR op_ne (pe_callB (r := rLenS K) (call_len_seq) (by rfl) T.b_len boot_len (pa_cons (pv 1) pa_nil)) (pe_callB (r := rLenS K) (call_len_seq) (by rfl) T.b_len boot_len (pa_cons (pv 0) pa_nil)) (nomark _)) (pss_one ps_no) pss_nil)
      (pss_one (ps_expr (pe_call (ok_check_life T) (hr.mono (by decide)) (by rfl) T.g_check_life T.F_check_life.kp T.b_check_life .nil pass0 (pa_cons (pv 2) pa_nil)))))))), ?_⟩
    refine q_drop (ev_call (ea_cons ev_c (ea_cons (ev_var rfl) ea_nil)) (spv_amounts hB (by omega) gd.b0)) fun H1 e1 => ?_
    refine q_when (b := false) (et_is (et_test (ev_op (Ev.int_eq (ev_lenT (ev_var rfl) (ex_t e1 hB)) e24) ev_c (rv_eq rfl))) ?_) (fun hb => nomatch hb) fun _ H2 e2 => ?_
    · have q : ¬ (V.int (bs.length : Int) = V.int 0) := fun z => by injection z with z; omega
      simp [q]
    refine q_drop (ev_call (ea_cons ev_c (ea_cons (ev_var rfl) ea_nil)) (spv_amounts (ex_t (e1.trans e2) hD) (by omega) gd.d0)) fun H3 e3 => ?_
    have eA := (e1.trans e2).trans e3
    refine q_when (b := false) (et_is (et_test (ev_op (Ev.int_eq (ev_lenT (ev_var rfl) (ex_t eA hD)) e24') (Ev.int_eq (ev_lenT (ev_var rfl) (ex_t eA hB)) e24) (rv_ne rfl))) ?_) (fun hb => nomatch hb) fun _ H4 e4 => ?_
    · have q : V.int (ds.length : Int) = V.int (bs.length : Int) := by rw [hld]
      simp [q]
    exact s_drop (ev_call (ea_cons (ev_var rfl) ea_nil) (spv_life l0 l1)) fun H5 e5 => k H5 ((eA.trans e4).trans e5)
/-! ### the bakery -/
def bakMeths : List Str := ["with_life", "baking_more", "stock", "sold", "missed", "thrown", "totals", "shelf", "MAX_LIFE"]
/-- a bakery -/
structure BakAt (K : PySem.W.Frag) (Z : Ad) (H : Hp) (b : Addr) (bs ds : List Int) (life : Int) (i : Nat) : Prop where
  fb : ∃ tb, FlK K H b Z.c_Bakery "_bakes" (.ref tb) ∧ SqT K H tb (bs.map V.int)
  fd : ∃ td, FlK K H b Z.c_Bakery "_demands" (.ref td) ∧ SqT K H td (ds.map V.int)
  fl : FlK K H b Z.c_Bakery "_life" (.int life)
  fc : ∃ c, FlK K H b Z.c_Bakery "course" (.ref c) ∧ CoAt K Z H c bs ds (keepL bs life)
  fs : FlK K H b Z.c_Bakery "_settled_day" (.int (grw bs ds (keepL bs life) * (bs.length : Int) + (i : Int)))
  fr : ∃ tl, FlK K H b Z.c_Bakery "_long_run" (.ref tl) ∧ SqT K H tl ((longI bs ds (lmOf bs ds (keepL bs life))).map V.int)
  gd : Good bs ds
  l0 : 1 ≤ life
  l1 : life ≤ 30
  hi : SetAt bs ds (keepL bs life) (gainOf bs ds) (firstOf bs ds (keepL bs life)) (fullOf bs ds (keepL bs life)) i
  nf : ∀ m : Str, m ∈ bakMeths → NoF H b Z.c_Bakery m
theorem BakAt.mono {H H' : Hp} {b : Addr} {bs ds : List Int} {life : Int} {i : Nat} (e : Ex H H') (h : BakAt K Z H b bs ds life i) : BakAt K Z H' b bs ds life i :=
  ⟨let ⟨a, x, y⟩ := h.fb; ⟨a, x.mono e, ex_t e y⟩, let ⟨a, x, y⟩ := h.fd; ⟨a, x.mono e, ex_t e y⟩, h.fl.mono e, let ⟨a, x, y⟩ := h.fc; ⟨a, x.mono e, CO.mono e y⟩, h.fs.mono e, let ⟨a, x, y⟩ := h.fr; ⟨a, x.mono e, ex_t e y⟩, h.gd, h.l0, h.l1, h.hi, fun m hm => (h.nf m hm).mono e⟩
theorem BakAt.com {H : Hp} {b : Addr} {bs ds : List Int} {life : Int} {i : Nat} (h : BakAt K Z H b bs ds life i) : CoM bs ds (keepL bs life) := ⟨h.gd, keepL_len, fun _ => keepL_nn h.gd.b0⟩
theorem BakAt.inst {H : Hp} {b : Addr} {bs ds : List Int} {life : Int} {i : Nat} (h : BakAt K Z H b bs ds life i) : ∃ dx fs, H b = some (.ins Z.c_Bakery dx fs) := let ⟨dx, fs, x, _⟩ := h.fl.fl; ⟨dx, fs, x⟩
/-- Course(..) -/
theorem er_course {σ : L2.St} {H : Hp} {M : Addr → Prop} {t : TA} {tb td : Addr} {bs ds : List Int} {life : Int} {E : XK} (ht : EvA t σ H [.ref tb, .ref td, .int life]) (hb : SqT K (wn H M) tb (bs.map V.int)) (hd : SqT K (wn H M) td (ds.map V.int)) (gd : Good bs ds) (l0 : 1 ≤ life) (l1 : life ≤ 30) :
    EvR (tMake Z.c_Course (sp_Cinit K Z) [] E t) σ H M (fun c H' => CoAt K Z H' c bs ds (keepL bs life)) := fun H1 e1 kn Q q => ht H1 e1 _ fun H2 e2 x dx hx hdx hne => by
  have eN : Ex H2 (upd (upd H2 dx (.own x)) x (.ins Z.c_Course dx [])) := fun b o hbo => by
    rw [upd_ne (ne_of_none hbo hx), upd_ne (ne_of_none hbo hdx)]; exact hbo
  have kn2 : ∀ b, M b → H2 b ≠ none := fun b hb z => kn b hb (fresh_back e2 z)
  refine ⟨x, dx, tb, td, bs, ds, life, M, rfl, upd_same, ex_t (wn_mono ((e1.trans e2).trans eN)) hb, ex_t (wn_mono ((e1.trans e2).trans eN)) hd, gd, l0, l1, fun b hb z => kn2 b hb (fresh_back eN z), fun z => kn2 x z hx, fun H3 hC k => ⟨rfl, ?_⟩⟩
  refine q x H3 (fresh_back e2 hx) (e2.trans fun b o hbo => k b o (eN b o hbo) (ne_of_none hbo hx)) hC
def sp_Binit (K : PySem.W.Frag) (Z : Ad) : Sp := fun vs H Q _ => ∃ (x dx tb td : Addr) (bs ds : List Int) (life : Int) (N : Addr → Prop), vs = [.ref x, .ref tb, .ref td, .int life] ∧ H x = some (.ins Z.c_Bakery dx []) ∧
  SqT K (wn H N) tb (bs.map V.int) ∧ SqT K (wn H N) td (ds.map V.int) ∧ Good bs ds ∧ 1 ≤ life ∧ life ≤ 30 ∧
  (∀ b, N b → H b ≠ none) ∧ ¬ N x ∧ ∀ H' i, BakAt K Z (wn H' N) x bs ds life i → (∀ b o, H b = some o → b ≠ x → H' b = some o) → Q .non H'
theorem er_bakery {σ : L2.St} {H : Hp} {M : Addr → Prop} {t : TA} {tb td : Addr} {bs ds : List Int} {life : Int} {E : XK} (ht : EvA t σ H [.ref tb, .ref td, .int life]) (hb : SqT K (wn H M) tb (bs.map V.int)) (hd : SqT K (wn H M) td (ds.map V.int)) (gd : Good bs ds) (l0 : 1 ≤ life) (l1 : life ≤ 30) :
    EvR (tMake Z.c_Bakery (sp_Binit K Z) [] E t) σ H M (fun c H' => ∃ i, BakAt K Z H' c bs ds life i) := fun H1 e1 kn Q q => ht H1 e1 _ fun H2 e2 x dx hx hdx hne => by
  have eN : Ex H2 (upd (upd H2 dx (.own x)) x (.ins Z.c_Bakery dx [])) := fun b o hbo => by
    rw [upd_ne (ne_of_none hbo hx), upd_ne (ne_of_none hbo hdx)]; exact hbo
  have kn2 : ∀ b, M b → H2 b ≠ none := fun b hb z => kn b hb (fresh_back e2 z)
  refine ⟨x, dx, tb, td, bs, ds, life, M, rfl, upd_same, ex_t (wn_mono ((e1.trans e2).trans eN)) hb, ex_t (wn_mono ((e1.trans e2).trans eN)) hd, gd, l0, l1, fun b hb z => kn2 b hb (fresh_back eN z), fun z => kn2 x z hx, fun H3 i hC k => ⟨rfl, ?_⟩⟩
  refine q x H3 (fresh_back e2 hx) (e2.trans fun b o hbo => k b o (eN b o hbo) (ne_of_none hbo hx)) ⟨i, hC⟩
theorem ok_Bakery___init__ (T : Txt K mg Z) : FnOk P w K mg base CX0 6 Z.f_Bakery___init__ Z.d_Bakery___init__ p_Bakery___init__ (sp_Binit K Z) := by
  refine T.F_Bakery___init__.ok sc_Bakery___init__ (fun vs H Q E h => ?_) (fun cdv Ar outer s H vs Q E hr h => ?_)
  · obtain ⟨x, dx, tb, td, bs, ds, life, N, rfl, _⟩ := h
    rfl
  · obtain ⟨x, dx, tb, td, bs, ds, life, N, rfl, hx, hb, hd, gd, l0, l1, hN, nNx, k⟩ := h
    have hM : nx x N x := .inl rfl
    have cl := T.cl_Bakery
    have cm : CoM bs ds (keepL bs life) := ⟨gd, keepL_len, fun _ => keepL_nn gd.b0⟩
    obtain ⟨i, hi⟩ := set_ex cm
    refine ⟨_, (pss_cons (ps_expr (pe_call (ok_check_bakery T) (hr.mono (by decide)) (by rfl) T.g_check_bakery T.F_check_bakery.kp T.b_check_bakery .nil pass0 (pa_cons (pv 1) (pa_cons (pv 2) (pa_cons (pv 3) pa_nil)))))
      (pss_cons (ps_fld (pv 0) (pe_callTy (r := rTupS K) (call_tuple_of) (by rfl) T.b_tuple boot_tuple (pa_cons (pv 1) pa_nil)) rfl)
      (pss_cons (ps_fld (pv 0) (pe_callTy (r := rTupS K) (call_tuple_of) (by rfl) T.b_tuple boot_tuple (pa_cons (pv 2) pa_nil)) rfl)
      (pss_cons (ps_fld (pv 0) (pv 3) rfl)
      (pss_cons (ps_fld (pv 0) (pe_make T.mk_Course (ok_Course___init__ T) (hr.mono (by decide)) (by rfl) T.g_Course T.b_Course___init__ .nil pass0 (pa_cons (pe_fldK K rfl (pv 0) rfl) (pa_cons (pe_fldK K rfl (pv 0) rfl) (pa_cons (pv 3) pa_nil)))) rfl)
      (pss_cons (ps_fld (pv 0) (pe_meth0 (pe_fldK K rfl (pv 0) rfl) T.cl_Course T.m_Course_find_settled (ok_Course_find_settled T) (hr.mono (by decide)) T.b_Course_find_settled .nil pass0) rfl)
      (pss_one (ps_fld (pv 0) (pe_meth0 (pe_fldK K rfl (pv 0) rfl) T.cl_Course T.m_Course_sum_settled_round (ok_Course_sum_settled_round T) (hr.mono (by decide)) T.b_Course_sum_settled_round .nil pass0) rfl)))))))), ?_⟩
    refine q_drop (ev_call (ea_cons (ev_var rfl) (ea_cons (ev_var rfl) (ea_cons (ev_var rfl) ea_nil))) (fun _ e _ q _ => ⟨tb, td, bs, ds, life, rfl, ex_t (wn_ex.trans e) hb, ex_t (wn_ex.trans e) hd, gd, l0, l1, q⟩)) fun H0 e0 => ?_
    have hbw : SqT K (wn H (nx x N)) tb (bs.map V.int) := wn_tx hx hb
    have hdw : SqT K (wn H (nx x N)) td (ds.map V.int) := wn_tx hx hd
    have w0 : Ex (wn H (nx x N)) (wn H0 (nx x N)) := wn_mono e0
    have kn0 : ∀ b, nx x N b → H0 b ≠ none := fun b z q => z.elim (fun e => by rw [e, e0 _ _ hx] at q; cases q) fun e => hN b e (fresh_back e0 q)
    refine q_self hM kn0 (ev_tupT (ev_var rfl) (ex_t (wn_ex.trans e0) hb)) (fun _ _ => ev_var rfl) (e0 _ _ hx) cl T.na_Bakery__bakes (by decide) fun S1 x1 g1 => ?_
    refine q_self hM g1.kn (ev_tupT (ev_var rfl) (ex_t ((w0.trans g1.ex).trans wn_ex) hdw)) (fun _ _ => ev_var rfl) x1 cl T.na_Bakery__demands (by show 1 < 1000; decide) fun S2 x2 g2 => ?_
    refine q_self hM g2.kn (ev_var rfl) (fun _ _ => ev_var rfl) x2 cl T.na_Bakery__life (by show 2 < 1000; decide) fun S3 x3 g3 => ?_
    have w03 := ((w0.trans g1.ex).trans g2.ex).trans g3.ex
    have fb3 := flk_of x3 cl T.na_Bakery__bakes (show _ = some (V.ref tb) from rfl)
    have fd3 := flk_of x3 cl T.na_Bakery__demands (show _ = some (V.ref td) from rfl)
    -- course
    refine q_selfR hM g3.kn (er_course (ea_cons (by walk_at "ev") (ea_cons (by walk_at "ev") (ea_cons (ev_var rfl) ea_nil))) (ex_t w03 hbw) (ex_t w03 hdw) gd l0 l1) (fun _ _ => ev_var rfl) x3 cl T.na_Bakery_course (by show 3 < 1000; decide)
      (fun p H1 H2 e hP => CO.mono e hP) fun c S4 c4 x4 g4 => ?_
    -- _settled_day
    have fc4 := flk_of x4 cl T.na_Bakery_course (show _ = some (V.ref c) from rfl)
    have fsr : ∀ {S : Hp}, CoAt K Z S c bs ds (keepL bs life) → SpV (sp_settled K Z) [.ref c] S (.int (grw bs ds (keepL bs life) * (bs.length : Int) + (i : Int))) := fun hC _ e _ q _ => by
      obtain ⟨tb', td', tk', s⟩ := hC.sr
      exact ⟨c, bs, ds, keepL bs life, tb', td', tk', _, _, _, i, rfl, ⟨s.mono e, (hC.nf _ (by decide)).mono e⟩, cm.gainb.1, hi, q⟩
    refine q_self hM g4.kn (ev_meth (by walk_at "ev") ((CO.mono wn_ex c4).nf _ (by decide)) ea_nil (fsr (CO.mono wn_ex c4))) (fun _ _ => ev_var rfl) x4 cl T.na_Bakery__settled_day (by show 4 < 1000; decide) fun S5 x5 g5 => ?_
    have fc5 := flk_of x5 cl T.na_Bakery_course (show _ = some (V.ref c) from rfl)
    have c5 : CoAt K Z (wn S5 (nx x N)) c bs ds (keepL bs life) := CO.mono g5.ex c4
    refine q_selfU hM g5.kn (xs := (longI bs ds (lmOf bs ds (keepL bs life))).map V.int) (eu_meth (by walk_at "ev") ((CO.mono wn_ex c5).nf _ (by decide)) ea_nil (fun _ e _ q _ => ⟨c, bs, ds, keepL bs life, _, _, _, _, _, rfl, CO.mono e (CO.mono wn_ex c5), q⟩)) (fun _ _ => ev_var rfl) x5 cl T.na_Bakery__long_run (by show 5 < 1000; decide) fun tl S6 hl6 x6 g6 => ?_
    have w06 := ((w03.trans g4.ex).trans g5.ex).trans g6.ex
    have sb : ∀ {S : Hp}, Ex (wn S (nx x N)) (wn S N) := wn_sub fun b z => .inr z
    have y6 : wn S6 N x = _ := (wn_ni nNx).trans x6
    refine k S6 i ⟨⟨tb, flk_of y6 cl T.na_Bakery__bakes rfl, ex_t (w06.trans sb) hbw⟩, ⟨td, flk_of y6 cl T.na_Bakery__demands rfl, ex_t (w06.trans sb) hdw⟩, flk_of y6 cl T.na_Bakery__life rfl, ⟨c, flk_of y6 cl T.na_Bakery_course rfl, CO.mono (g6.ex.trans sb) c5⟩,
      flk_of y6 cl T.na_Bakery__settled_day rfl, ⟨tl, flk_of y6 cl T.na_Bakery__long_run rfl, ex_t sb hl6⟩, gd, l0, l1, hi, ?_⟩ fun b o hbo hne => ?_
    · intro m hm
      refine ⟨_, _, y6, ?_⟩
      simp only [bakMeths, List.mem_cons, List.not_mem_nil, or_false] at hm
      rcases hm with rfl | rfl | rfl | rfl | rfl | rfl | rfl | rfl | rfl <;> rfl
    · exact g6.al b o (g5.al b o (g4.al b o (g3.al b o (g2.al b o (g1.al b o (e0 b o hbo) hne) hne) hne) hne) hne) hne
/-! ### a bakery's methods -/
theorem ev_prop {σ : L2.St} {H : Hp} {ta : TE} {C a : Addr} {sp : Sp} {E : XK} {z : V} (h : Ev ta σ H (.ref a)) (hi : ∃ dx fs, H a = some (.ins C dx fs)) (hs : SpV sp [.ref a] H z) : Ev (tProp C sp [] E ta) σ H z := fun H1 e Q q =>
  h H1 e _ fun H2 e2 => let ⟨dx, fs, h1⟩ := hi; ⟨a, dx, fs, rfl, e2 _ _ (e _ _ h1), hs H2 (e.trans e2) Q (fun H3 e3 => q H3 (e2.trans e3)) E⟩
def sp_Bset (K : PySem.W.Frag) (Z : Ad) : Sp := fun vs H Q _ => ∃ (b : Addr) (bs ds : List Int) (life : Int) (i : Nat), vs = [.ref b] ∧ BakAt K Z H b bs ds life i ∧ RetV (.int (grw bs ds (keepL bs life) * (bs.length : Int) + (i : Int))) H Q
def sp_Blong (K : PySem.W.Frag) (Z : Ad) : Sp := fun vs H Q _ => ∃ (b : Addr) (bs ds : List Int) (life : Int) (i : Nat), vs = [.ref b] ∧ BakAt K Z H b bs ds life i ∧ ∀ p H', Ex H H' → SqT K H' p ((longI bs ds (lmOf bs ds (keepL bs life))).map V.int) → Q (.ref p) H'
def sp_Bstock (K : PySem.W.Frag) (Z : Ad) : Sp := fun vs H Q _ => ∃ (b : Addr) (bs ds : List Int) (life : Int) (i : Nat) (t : Nat), vs = [.ref b, .int (t : Int)] ∧ (t : Int) ≤ 1000000000000000000 ∧ BakAt K Z H b bs ds life i ∧ RetV (.int (dayS bs ds (keepL bs life) t)) H Q
def sp_Bday (K : PySem.W.Frag) (Z : Ad) (j : Nat) : Sp := fun vs H Q _ => ∃ (b : Addr) (bs ds : List Int) (life : Int) (i : Nat) (t : Nat), vs = [.ref b, .int (t : Int)] ∧ (t : Int) ≤ 1000000000000000000 ∧ BakAt K Z H b bs ds life i ∧ RetV (.int ([solS bs ds (keepL bs life) t, misS bs ds (keepL bs life) t, thrS bs ds (keepL bs life) t].getD j 0)) H Q
theorem ok_Bakery_missed (T : Txt K mg Z) : FnOk P w K mg base CX0 4 Z.f_Bakery_missed Z.d_Bakery_missed p_Bakery_missed (sp_Bday K Z 1) := by
  refine T.F_Bakery_missed.ok sc_Bakery_missed (fun vs H Q E h => ?_) (fun cdv Ar outer s H vs Q E hr h => ?_)
  · obtain ⟨b, bs, ds, life, i, t, rfl, _⟩ := h
    rfl
  · obtain ⟨b, bs, ds, life, i, t, rfl, ht, hB, k⟩ := h
    refine ⟨_, (pss_cons (ps_expr (pe_call (ok_check_number T) (hr.mono (by decide)) (by rfl) T.g_check_number T.F_check_number.kp T.b_check_number .nil pass0 (pa_cons (pv 1) (pa_cons pe_int (pa_cons (pe_glob (v := .int 1000000000000000000) (by rfl) T.g_LAST_DAY ⟨_, rfl⟩) pa_nil)))))
      (pss_one (ps_ret (pe_ix (r := rIxT K) ix_tup (pe_meth (pe_fldK K rfl (pv 0) rfl) T.cl_Course T.m_Course_sales_on (ok_Course_sales_on T) (hr.mono (by decide)) T.b_Course_sales_on .nil pass0 (pa_cons (pv 1) pa_nil)) pe_int (fun _ _ => rfl))))), ?_⟩
    refine q_drop (ev_call (ea_cons (ev_var rfl) (ea_cons ev_c (ea_cons ev_c ea_nil))) (spv_num (by omega) ht)) fun H1 e1 => ?_
    obtain ⟨c, fc, hC⟩ := (hB.mono e1).fc
    obtain ⟨tb, td, tk, s⟩ := hC.sr
    have hs : salesI bs ds (keepL bs life) (gainOf bs ds) (firstOf bs ds (keepL bs life)) (fullOf bs ds (keepL bs life)) (t : Int) = _ := sales_is hB.com t
    refine s_ret (ev_ixNU (i := 1) (v := .int (misS bs ds (keepL bs life) t)) (eu_meth (by walk_at "ev") (hC.nf _ (by decide)) (ea_cons (ev_var rfl) ea_nil) (spu_sales_on s)) ev_c (by rw [hs]; rfl)) fun H2 e2 => k H2 (e1.trans e2)
theorem ok_Bakery_thrown (T : Txt K mg Z) : FnOk P w K mg base CX0 4 Z.f_Bakery_thrown Z.d_Bakery_thrown p_Bakery_thrown (sp_Bday K Z 2) := by
  refine T.F_Bakery_thrown.ok sc_Bakery_thrown (fun vs H Q E h => ?_) (fun cdv Ar outer s H vs Q E hr h => ?_)
  · obtain ⟨b, bs, ds, life, i, t, rfl, _⟩ := h
    rfl
  · obtain ⟨b, bs, ds, life, i, t, rfl, ht, hB, k⟩ := h
    refine ⟨_, (pss_cons (ps_expr (pe_call (ok_check_number T) (hr.mono (by decide)) (by rfl) T.g_check_number T.F_check_number.kp T.b_check_number .nil pass0 (pa_cons (pv 1) (pa_cons pe_int (pa_cons (pe_glob (v := .int 1000000000000000000) (by rfl) T.g_LAST_DAY ⟨_, rfl⟩) pa_nil)))))
      (pss_one (ps_ret (pe_ix (r := rIxT K) ix_tup (pe_meth (pe_fldK K rfl (pv 0) rfl) T.cl_Course T.m_Course_sales_on (ok_Course_sales_on T) (hr.mono (by decide)) T.b_Course_sales_on .nil pass0 (pa_cons (pv 1) pa_nil)) pe_int (fun _ _ => rfl))))), ?_⟩
    refine q_drop (ev_call (ea_cons (ev_var rfl) (ea_cons ev_c (ea_cons ev_c ea_nil))) (spv_num (by omega) ht)) fun H1 e1 => ?_
    obtain ⟨c, fc, hC⟩ := (hB.mono e1).fc
    obtain ⟨tb, td, tk, s⟩ := hC.sr
    have hs : salesI bs ds (keepL bs life) (gainOf bs ds) (firstOf bs ds (keepL bs life)) (fullOf bs ds (keepL bs life)) (t : Int) = _ := sales_is hB.com t
    refine s_ret (ev_ixNU (i := 2) (v := .int (thrS bs ds (keepL bs life) t)) (eu_meth (by walk_at "ev") (hC.nf _ (by decide)) (ea_cons (ev_var rfl) ea_nil) (spu_sales_on s)) ev_c (by rw [hs]; rfl)) fun H2 e2 => k H2 (e1.trans e2)
def totS (bs ds ks : List Int) (t : Nat) : List Int := [psum (solS bs ds ks) t, psum (misS bs ds ks) t, psum (thrS bs ds ks) t]
def sp_Btot (K : PySem.W.Frag) (Z : Ad) : Sp := fun vs H Q _ => ∃ (b : Addr) (bs ds : List Int) (life : Int) (i : Nat) (t : Nat), vs = [.ref b, .int (t : Int)] ∧ (t : Int) ≤ 1000000000000000000 ∧ BakAt K Z H b bs ds life i ∧ RetU ((totS bs ds (keepL bs life) t).map V.int) H Q
theorem ok_Bakery_totals (T : Txt K mg Z) : FnOk P w K mg base CX0 5 Z.f_Bakery_totals Z.d_Bakery_totals p_Bakery_totals (sp_Btot K Z) := by
  refine T.F_Bakery_totals.ok sc_Bakery_totals (fun vs H Q E h => ?_) (fun cdv Ar outer s H vs Q E hr h => ?_)
  · obtain ⟨b, bs, ds, life, i, t, rfl, _⟩ := h
    rfl
  · obtain ⟨b, bs, ds, life, i, t, rfl, ht, hB, k⟩ := h
    refine ⟨_, (pss_cons (ps_expr (pe_call (ok_check_number T) (hr.mono (by decide)) (by rfl) T.g_check_number T.F_check_number.kp T.b_check_number .nil pass0 (pa_cons (pv 1) (pa_cons pe_int (pa_cons (pe_glob (v := .int 1000000000000000000) (by rfl) T.g_LAST_DAY ⟨_, rfl⟩) pa_nil)))))
      (pss_one (ps_ret (pe_meth (pe_fldK K rfl (pv 0) rfl) T.cl_Course T.m_Course_sales_before (ok_Course_sales_before T) (hr.mono (by decide)) T.b_Course_sales_before .nil pass0 (pa_cons (pv 1) pa_nil))))), ?_⟩
    refine q_drop (ev_call (ea_cons (ev_var rfl) (ea_cons ev_c (ea_cons ev_c ea_nil))) (spv_num (by omega) ht)) fun H1 e1 => ?_
    obtain ⟨c, fc, hC⟩ := (hB.mono e1).fc
    refine s_retU (xs := (totS bs ds (keepL bs life) t).map V.int) (eu_meth (by walk_at "ev") (hC.nf _ (by decide)) (ea_cons (ev_var rfl) ea_nil) (fun _ e _ q _ => ?_)) fun p H2 hp e2 h2 => k p H2 (fresh_back e1 hp) (e1.trans e2) h2
    refine ⟨c, bs, ds, keepL bs life, _, _, _, _, _, (t : Int), rfl, by omega, CO.mono e hC, ?_⟩
    rw [tot_is hB.com]
    exact q
end Sw
namespace Sw
open PySem PySem.Spec PyProof.Rows L2 Evl
local macro_rules | `(tactic| walk_at "ev") => `(tactic| first
  | exact ev_c
  | exact ev_var rfl
  | ((with_reducible show Ev (tCB rMax2 _) _ _ _); exact ev_maxi (by walk_at "ev") (by walk_at "ev"))
  | ((with_reducible show Ev (tCB rMn _) _ _ _); exact ev_min2 (by walk_at "ev") (by walk_at "ev"))
  | ((with_reducible show Ev (tUn _ _) _ _ _); exact ev_un (by walk_at "ev") ru_neg)
  | ((with_reducible show Ev (tFld _ _ _) _ _ _); exact ev_fldK (by walk_at "ev") (by assumption))
  | ((with_reducible show Ev (tOp (rI0 _) _ _) _ _ _); exact ev_op (by walk_at "ev") (by walk_at "ev") rv_I0)
  | ((with_reducible show Ev (tOp rEq _ _) _ _ _); exact ev_op (by walk_at "ev") (by walk_at "ev") (rv_eq rfl))
  | ((with_reducible show Ev (tOp rNe _ _) _ _ _); exact ev_op (by walk_at "ev") (by walk_at "ev") (rv_ne rfl)))

/-! ### the law's draws: a list of the script, a position, a seed, a rest -/
def HS (H : Hp) (h l : Addr) : Prop := ∃ pos m rest : Int, H h = some (.lst [.ref l, .int pos, .int m, .int rest]) ∧ 0 ≤ pos ∧ 0 ≤ m ∧ m < 2147483647 ∧ 0 ≤ rest
def hl (h _l : Addr) : Addr → Prop := fun b => b = h
theorem HS.mono {H H' : Hp} {h l : Addr} (e : Ex H H') (q : HS H h l) : HS H' h l :=
  let ⟨p, m, r, h1, z⟩ := q; ⟨p, m, r, e _ _ h1, z⟩
theorem HS.kn {H : Hp} {h l : Addr} (q : HS H h l) : ∀ b, hl h l b → H b ≠ none := by
  obtain ⟨_, _, _, h1, _⟩ := q
  rintro b rfl z
  rw [h1] at z; cases z
/-- a draw may change h, and makes what it likes -/
structure Dr (h l : Addr) (H H' : Hp) : Prop where
  hs : HS H' h l
  ex : Ex (wn H (hl h l)) (wn H' (hl h l))
theorem Dr.trans {h l : Addr} {H H1 H2 : Hp} (a : Dr h l H H1) (b : Dr h l H1 H2) : Dr h l H H2 := ⟨b.hs, a.ex.trans b.ex⟩
theorem Dr.refl {h l : Addr} {H : Hp} (q : HS H h l) : Dr h l H H := ⟨q, Ex.refl _⟩
theorem Dr.of {h l : Addr} {H H' : Hp} (q : HS H h l) (e : Ex H H') : Dr h l H H' := ⟨q.mono e, wn_mono e⟩
def sp_drawn (K : PySem.W.Frag) : Sp := fun vs H Q _ => ∃ (h l : Addr) (cells : List Int) (count : Int), vs = [.ref h, .int count] ∧ 0 < count ∧ count ≤ 1000000000000000000 ∧ HS H h l ∧ SqL K (wn H (hl h l)) l (cells.map V.int) ∧ ∀ v H', 0 ≤ v → v < count → Dr h l H H' → Q (.int v) H'
section
variable {K : PySem.W.Frag} {σ : L2.St} {H H' : Hp} {ta tb te tx : TE} {x y z v : V} {a h l : Addr} {xs ys : List V}
theorem el_cat (ha : Ev ta σ H (.ref a)) (hx : H a = some (.lst xs)) (hb : EvL tb σ H ys) (hz : xs.length + ys.length ≤ 100000) : EvL (tOp rCat ta tb) σ H (xs ++ ys) := fun H1 e Q q =>
  ha H1 e _ fun H2 e2 => hb H2 (e.trans e2) _ fun p H3 _ e3 hp => ⟨a, p, xs, ys, rfl, rfl, e3 _ _ (e2 _ _ (e _ _ hx)), hp, sz_of hz, fun r hr => q r _ (fresh_back (e2.trans e3) hr) ((e2.trans e3).trans (Ex.new hr)) upd_same⟩
theorem Dr.upd {o : HO} (hN : hl h l a) (q : HS (L2.upd H a o) h l) : Dr h l H (L2.upd H a o) := ⟨q, wn_upd hN⟩
end
variable {P : Program} {w : World} {K : PySem.W.Frag} {mg : Str → Option Value} {base : Heap} {Z : Ad}
def sp_start (K : PySem.W.Frag) : Sp := fun vs H Q _ => ∃ (a : Addr) (ns : List Int), vs = [.ref a] ∧ SqL K H a (ns.map V.int) ∧ ns.length ≤ 63 ∧ ∀ h H', H h = none → Ex H H' → HS H' h a → Q (.ref h) H'
theorem ok__law_start (T : Txt K mg Z) : FnOk P w K mg base CX0 1 Z.f__law_start Z.d__law_start p__law_start (sp_start K) := by
  refine T.F__law_start.ok sc__law_start (fun vs H Q E h => ?_) (fun cdv Ar outer s H vs Q E hr h => ?_)
  · obtain ⟨a, ns, rfl, _⟩ := h
    rfl
  · obtain ⟨a, ns, rfl, hS, hn, k⟩ := h
    refine ⟨_, (pss_cons (ps_set (i := 1) sc__law_start.nd rfl (Or.inl rfl) pe_int)
      (pss_cons (ps_for PassesOwn.never rfl (pi_listK K rfl (pv 0)) (pg_name (i := 2) sc__law_start.nd rfl (Or.inl rfl)) (pss_one (ps_set (i := 1) sc__law_start.nd rfl (Or.inl rfl) (pe_op op_mod (pe_op op_add (pe_op op_add (pe_op op_mul (pv 1) pe_int) (pv 2)) pe_int) pe_int))))
      (pss_one (ps_ret (pe_lst (pa_cons (pv 0) (pa_cons pe_int (pa_cons (pv 1) (pa_cons pe_int pa_nil))))))))), ?_⟩
    refine q_asg ev_c fun H1 e1 => ?_
    refine q_forLn (ev_var rfl) (ex_l e1 hS) (fun i σ' H' => (∃ m x, σ' = [some (.ref a), some (.int m), x] ∧ 0 ≤ m ∧ m < 2147483647) ∧ Ex H H') (fun H2 e2 => ⟨⟨1, _, rfl, by decide, by decide⟩, e1.trans e2⟩) (fun i σ' H' _ p => ex_l p.2 hS) ?_ ?_
    · rintro i x σ' H' hx ⟨⟨m, _, rfl, m0, m1⟩, e2⟩
      obtain ⟨rfl, hi⟩ := at_map hx
      refine s_asg (ev_op (ev_op (ev_op (ev_op (ev_var rfl) ev_c (rv_I (wide_ok (by decide)))) (ev_var rfl) rv_I0) ev_c rv_I0) ev_c (rv_I (by show (0 : Int) < 2147483647; decide))) fun H2 e3 => ?_
      exact ⟨⟨_, _, rfl, Int.emod_nonneg _ (by decide), Int.emod_lt_of_pos _ (by decide)⟩, e2.trans e3⟩
    · rintro σ' H' ⟨⟨m, _, rfl, m0, m1⟩, e2⟩
      refine ⟨_, rfl, _, rfl, by show 4 ≤ sizeLine; decide, fun r hr => k r _ (fresh_back e2 hr) (e2.trans (Ex.new hr)) ⟨0, m, 0, upd_same, by decide, m0, m1, by decide⟩⟩
theorem ok__law_drawn (T : Txt K mg Z) : FnOk P w K mg base CX0 1 Z.f__law_drawn Z.d__law_drawn p__law_drawn (sp_drawn K) := by
  refine T.F__law_drawn.ok sc__law_drawn (fun vs H Q E h => ?_) (fun cdv Ar outer s H vs Q E hr h => ?_)
  · obtain ⟨a, l, cells, count, rfl, _⟩ := h
    rfl
  · obtain ⟨a, l, cells, count, rfl, p0, p1, hs, hS, k⟩ := h
    obtain ⟨pos, m, rest, h1, q0, m0, m1, r0⟩ := id hs
    have ix0 : ∀ {σ : L2.St} {G : Hp} {te : TE} {p' m' r' : Int}, Ev te σ G (.ref a) → G a = some (.lst [.ref l, .int p', .int m', .int r']) → Ev (tOp (rIxL K) te (tC (.int 0))) σ G (.ref l) := fun he hg => ev_ixL he (sq_of hg) ev_c rfl
    have ix1 : ∀ {σ : L2.St} {G : Hp} {te : TE} {p' m' r' : Int}, Ev te σ G (.ref a) → G a = some (.lst [.ref l, .int p', .int m', .int r']) → Ev (tOp (rIxL K) te (tC (.int 1))) σ G (.int p') := fun he hg => ev_ixL he (sq_of hg) ev_c rfl
    have ix2 : ∀ {σ : L2.St} {G : Hp} {te : TE} {p' m' r' : Int}, Ev te σ G (.ref a) → G a = some (.lst [.ref l, .int p', .int m', .int r']) → Ev (tOp (rIxL K) te (tC (.int 2))) σ G (.int m') := fun he hg => ev_ixL he (sq_of hg) ev_c rfl
    have ix3 : ∀ {σ : L2.St} {G : Hp} {te : TE} {p' m' r' : Int}, Ev te σ G (.ref a) → G a = some (.lst [.ref l, .int p', .int m', .int r']) → Ev (tOp (rIxL K) te (tC (.int 3))) σ G (.int r') := fun he hg => ev_ixL he (sq_of hg) ev_c rfl
    have p10 : (10 : Int) ^ (18 : Int).toNat = 1000000000000000000 := by decide
    have hlen : (((cells.map V.int).length : Nat) : Int) = (cells.length : Int) := by rw [List.length_map]
    refine ⟨_, (pss_cons (ps_if (pt_cmpR op_gt (pe_ix (r := rIxL K) ix_list (pv 0) pe_int (fun _ _ => rfl)) pe_int (nomark _)) (pss_cons (ps_set (i := 2) sc__law_drawn.nd rfl (Or.inl rfl) (pe_op op_mod (pe_ix (r := rIxL K) ix_list (pv 0) pe_int (fun _ _ => rfl)) (pv 1)))
      (pss_cons (ps_asg (pe_op op_fdivW (pe_ix (r := rIxL K) ix_list (pv 0) pe_int (fun _ _ => rfl)) (pv 1)) (pg_sub (pv 0) pe_int set_list))
      (pss_one (ps_ret (pv 2))))) pss_nil)
      (pss_cons (ps_asg (pe_op op_add (pe_ix (r := rIxL K) ix_list (pv 0) pe_int (fun _ _ => rfl)) pe_int) (pg_sub (pv 0) pe_int set_list))
      (pss_cons (ps_if (pt_cmpR op_le (pe_ix (r := rIxL K) ix_list (pv 0) pe_int (fun _ _ => rfl)) (pe_callB (r := rLenS K) (call_len_seq) (by rfl) T.b_len boot_len (pa_cons (pe_ix (r := rIxL K) ix_list (pv 0) pe_int (fun _ _ => rfl)) pa_nil)) (nomark _)) (pss_cons (ps_set (i := 3) sc__law_drawn.nd rfl (Or.inl rfl) (pe_ix (r := rIxL K) ix_list (pe_ix (r := rIxL K) ix_list (pv 0) pe_int (fun _ _ => rfl)) (pe_op op_sub (pe_ix (r := rIxL K) ix_list (pv 0) pe_int (fun _ _ => rfl)) pe_int) (fun _ _ => rfl)))
      (pss_cons (ps_asg (pe_ifExp (pt_cmpR op_ge (pv 3) (pe_op op_pow pe_int pe_int) (nomark _)) (pe_op op_fdivW (pv 3) (pv 1)) pe_int) (pg_sub (pv 0) pe_int set_list))
      (pss_one (ps_ret (pe_op op_mod (pv 3) (pv 1)))))) pss_nil)
      (pss_cons (ps_asg (pe_op op_mod (pe_op op_add (pe_op op_mul (pe_ix (r := rIxL K) ix_list (pv 0) pe_int (fun _ _ => rfl)) pe_int) pe_int) pe_int) (pg_sub (pv 0) pe_int set_list))
      (pss_one (ps_ret (pe_op op_mod (pe_op op_fdivW (pe_ix (r := rIxL K) ix_list (pv 0) pe_int (fun _ _ => rfl)) pe_int) (pv 1)))))))), ?_⟩
    refine q_when (b := decide ((0 : Int) < rest)) (et_test (ev_is (ev_op (ix3 (ev_var rfl) h1) ev_c rv_I0) rfl)) (fun hb H1 e1 => ?_) (fun hb H1 e1 => ?_)
    · have a1 := e1 _ _ h1
      refine q_asg (v := .int (rest % count)) (ev_op (ix3 (ev_var rfl) a1) (ev_var rfl) (rv_I p0)) fun H2 e2 => ?_
      have a2 := e2 _ _ a1
      refine q_setL (j := 3) (v := .int (rest / count)) a2 (ev_op (ix3 (ev_var rfl) a2) (ev_var rfl) (rv_I (wide_div (b := 60) p0 (by omega) (by decide) (by decide)))) (ev_var rfl) ev_c (by show 3 < 4; decide) fun H3 e3 => ?_
      have d1 : (upd H3 a (.lst (([.ref l, .int pos, .int m, .int rest] : List V).set 3 (.int (rest / count))))) a = some (.lst [.ref l, .int pos, .int m, .int (rest / count)]) := upd_same
      have q3 : HS (upd H3 a (.lst (([.ref l, .int pos, .int m, .int rest] : List V).set 3 (.int (rest / count))))) a l := ⟨_, _, _, d1, q0, m0, m1, Int.ediv_nonneg r0 (by omega)⟩
      refine s_ret (ev_var rfl) fun H4 e4 => ?_
      exact k _ _ (Int.emod_nonneg _ (by omega)) (Int.emod_lt_of_pos _ p0) (((Dr.of hs ((e1.trans e2).trans e3)).trans (Dr.upd rfl q3)).trans (Dr.of q3 e4))
    · have a1 := e1 _ _ h1
      refine q_setL (j := 1) (v := .int (pos + 1)) a1 (ev_op (ix1 (ev_var rfl) a1) ev_c rv_I0) (ev_var rfl) ev_c (by show 1 < 4; decide) fun H2 e2 => ?_
      have d1 : (upd H2 a (.lst (([.ref l, .int pos, .int m, .int rest] : List V).set 1 (.int (pos + 1))))) a = some (.lst [.ref l, .int (pos + 1), .int m, .int rest]) := upd_same
      have q3 : HS (upd H2 a (.lst (([.ref l, .int pos, .int m, .int rest] : List V).set 1 (.int (pos + 1))))) a l := ⟨_, _, _, d1, by omega, m0, m1, r0⟩
      have D3 := (Dr.of hs (e1.trans e2)).trans (Dr.upd rfl q3)
      generalize upd H2 a (.lst (([.ref l, .int pos, .int m, .int rest] : List V).set 1 (.int (pos + 1)))) = S3 at d1 q3 D3 ⊢
      have hS3 : SqL K S3 l (cells.map V.int) := ex_l (D3.ex.trans wn_ex) hS
      refine q_when (b := decide (pos + 1 ≤ (cells.length : Int))) (et_test (ev_is (ev_op (ix1 (ev_var rfl) d1) (Ev.int_eq (ev_len (ix0 (ev_var rfl) d1) hS3) hlen) rv_I0) rfl)) (fun hb2 H4 e4 => ?_) (fun hb2 H4 e4 => ?_)
      · have hp : pos + 1 ≤ (cells.length : Int) := by simpa using hb2
        have d4 := e4 _ _ d1
        refine q_asg (v := .int (cells.getD pos.toNat 0)) (ev_ixL (ix0 (ev_var rfl) d4) (ex_l e4 hS3) (Ev.int_eq (i := pos + 1 - 1) (ev_op (ix1 (ev_var rfl) d4) ev_c rv_I0) (by omega)) (atI_mapI q0 (by omega))) fun H5 e5 => ?_
        generalize cells.getD pos.toNat 0 = cell
        have d5 := e5 _ _ d4
        refine q_setL (j := 3) (v := .int (if (1000000000000000000 : Int) ≤ cell then cell / count else 0)) d5 ?_ (ev_var rfl) ev_c (by show 3 < 4; decide) fun H6 e6 => ?_
        · by_cases hc : (1000000000000000000 : Int) ≤ cell
          · rw [if_pos hc]
            exact ev_if (b := true) (et_is (et_test (ev_op (ev_var rfl) (Ev.int_eq (ev_op ev_c ev_c (rv_I ⟨by decide, by decide, by decide⟩)) p10) rv_I0)) (by simpa using hc)) (fun _ => ev_op (ev_var rfl) (ev_var rfl) (rv_I (wide_div (b := 60) p0 (by omega) (by decide) (by decide)))) (fun z => nomatch z)
          · rw [if_neg hc]
            exact ev_if (b := false) (et_is (et_test (ev_op (ev_var rfl) (Ev.int_eq (ev_op ev_c ev_c (rv_I ⟨by decide, by decide, by decide⟩)) p10) rv_I0)) (by simpa using hc)) (fun z => nomatch z) (fun _ => ev_c)
        have r6 : 0 ≤ (if (1000000000000000000 : Int) ≤ cell then cell / count else 0) := by
          split
          · exact Int.ediv_nonneg (by omega) (by omega)
          · decide
        generalize (if (1000000000000000000 : Int) ≤ cell then cell / count else 0) = rest' at r6 ⊢
        have d6 : (upd H6 a (.lst (([.ref l, .int (pos + 1), .int m, .int rest] : List V).set 3 (.int rest')))) a = some (.lst [.ref l, .int (pos + 1), .int m, .int rest']) := upd_same
        have q6 : HS (upd H6 a (.lst (([.ref l, .int (pos + 1), .int m, .int rest] : List V).set 3 (.int rest')))) a l := ⟨_, _, _, d6, by omega, m0, m1, r6⟩
        refine s_ret (ev_op (ev_var rfl) (ev_var rfl) (rv_I p0)) fun H7 e7 => ?_
        exact k _ _ (Int.emod_nonneg _ (by omega)) (Int.emod_lt_of_pos _ p0) (((D3.trans (Dr.of q3 ((e4.trans e5).trans e6))).trans (Dr.upd rfl q6)).trans (Dr.of q6 e7))
      · have d4 := e4 _ _ d1
        have n0 : 0 ≤ (m * 48271 + 11) % 2147483647 := Int.emod_nonneg _ (by omega)
        have n1 : (m * 48271 + 11) % 2147483647 < 2147483647 := Int.emod_lt_of_pos _ (by omega)
        refine q_setL (j := 2) (v := .int ((m * 48271 + 11) % 2147483647)) d4 (ev_op (ev_op (ev_op (ix2 (ev_var rfl) d4) ev_c (rv_I (wide_ok (by decide)))) ev_c rv_I0) ev_c (rv_I (by show (0 : Int) < 2147483647; decide))) (ev_var rfl) ev_c (by show 2 < 4; decide) fun H6 e6 => ?_
        generalize (m * 48271 + 11) % 2147483647 = m' at n0 n1 ⊢
        have d6 : (upd H6 a (.lst (([.ref l, .int (pos + 1), .int m, .int rest] : List V).set 2 (.int m')))) a = some (.lst [.ref l, .int (pos + 1), .int m', .int rest]) := upd_same
        have q6 : HS (upd H6 a (.lst (([.ref l, .int (pos + 1), .int m, .int rest] : List V).set 2 (.int m')))) a l := ⟨_, _, _, d6, by omega, n0, n1, r0⟩
        refine s_ret (ev_op (ev_op (ix2 (ev_var rfl) d6) ev_c (rv_I (wide_div (b := 3) (by decide) (by decide) (by decide) (by decide)))) (ev_var rfl) (rv_I p0)) fun H7 e7 => ?_
        exact k _ _ (Int.emod_nonneg _ (by omega)) (Int.emod_lt_of_pos _ p0) (((D3.trans (Dr.of q3 (e4.trans e6))).trans (Dr.upd rfl q6)).trans (Dr.of q6 e7))
end Sw
namespace Sw
open PySem PySem.Spec PyProof.Rows L2 Evl
local macro_rules | `(tactic| walk_at "ev") => `(tactic| first
  | exact ev_c
  | exact ev_var rfl
  | ((with_reducible show Ev (tCB rMax2 _) _ _ _); exact ev_maxi (by walk_at "ev") (by walk_at "ev"))
  | ((with_reducible show Ev (tCB rMn _) _ _ _); exact ev_min2 (by walk_at "ev") (by walk_at "ev"))
  | ((with_reducible show Ev (tUn _ _) _ _ _); exact ev_un (by walk_at "ev") ru_neg)
  | ((with_reducible show Ev (tFld _ _ _) _ _ _); exact ev_fldK (by walk_at "ev") (by assumption))
  | ((with_reducible show Ev (tOp (rI0 _) _ _) _ _ _); exact ev_op (by walk_at "ev") (by walk_at "ev") rv_I0)
  | ((with_reducible show Ev (tOp rEq _ _) _ _ _); exact ev_op (by walk_at "ev") (by walk_at "ev") (rv_eq rfl))
  | ((with_reducible show Ev (tOp rNe _ _) _ _ _); exact ev_op (by walk_at "ev") (by walk_at "ev") (rv_ne rfl)))

/-! ### evaluating while cells are drawn -/
def EvX (te : TE) (σ : L2.St) (H : Hp) (h l : Addr) (P : V → Hp → Prop) : Prop := ∀ H1, Dr h l H H1 → ∀ Q : VK, (∀ v H2, Dr h l H1 H2 → P v (wn H2 (hl h l)) → Q v H2) → te σ H1 Q
def EvI (te : TE) (σ : L2.St) (H : Hp) (h l : Addr) (A : Int → Prop) : Prop := EvX te σ H h l fun v _ => ∃ i, v = .int i ∧ A i
def EvXT (t : TT) (σ : L2.St) (H : Hp) (h l : Addr) : Prop := ∀ H1, Dr h l H H1 → ∀ Q : Bool → Hp → Prop, (∀ b H2, Dr h l H1 H2 → Q b H2) → t σ H1 Q
/-- a list, a tuple of numbers -/
def LI (A : List Int → Prop) : V → Hp → Prop := fun v G => ∃ p ns, v = .ref p ∧ G p = some (.lst (ns.map V.int)) ∧ A ns
def TI' (A : List Int → Prop) : V → Hp → Prop := fun v G => ∃ p ns, v = .ref p ∧ G p = some (.tup (ns.map V.int)) ∧ A ns
section
variable {K : PySem.W.Frag} {σ : L2.St} {H H' : Hp} {ta tb tc te tx : TE} {x y z v : V} {a h l : Addr} {xs ys : List V} {A B C D : Int → Prop} {i j : Int}
theorem hl_kind {G : Hp} {p : Addr} {o : HO} (q : HS G h l) (hp : G p = some o) (ho : ∀ ys, o ≠ .lst ys) : ¬ hl h l p := by
  obtain ⟨_, _, _, h1, _⟩ := q
  rintro rfl
  rw [h1] at hp; exact ho _ (Option.some.inj hp).symm
theorem hl_new {G G' : Hp} {p : Addr} (q : HS G h l) (hp : G p = none) : ¬ hl h l p := fun z => q.kn p z hp
theorem x_ev (hv : Ev te σ (wn H (hl h l)) v) : EvX te σ H h l (fun u _ => u = v) := fun H1 d Q q => hv H1 (d.ex.trans wn_ex) Q fun H2 e2 => q v H2 (Dr.of d.hs e2) rfl
theorem xi_ev (hv : Ev te σ (wn H (hl h l)) (.int i)) (ha : A i) : EvI te σ H h l A := fun H1 d Q q => hv H1 (d.ex.trans wn_ex) Q fun H2 e2 => q _ H2 (Dr.of d.hs e2) ⟨i, rfl, ha⟩
theorem x_evU (hv : EvU te σ (wn H (hl h l)) xs) : EvX te σ H h l (fun u G => ∃ p, u = .ref p ∧ G p = some (.tup xs)) := fun H1 d Q q =>
  hv H1 (d.ex.trans wn_ex) Q fun p H2 hp e2 h2 => q _ H2 (Dr.of d.hs e2) ⟨p, rfl, by rw [wn_ni (hl_new (G' := H2) d.hs hp)]; exact h2⟩
theorem x_evL (hv : EvL te σ (wn H (hl h l)) xs) : EvX te σ H h l (fun u G => ∃ p, u = .ref p ∧ G p = some (.lst xs)) := fun H1 d Q q =>
  hv H1 (d.ex.trans wn_ex) Q fun p H2 hp e2 h2 => q _ H2 (Dr.of d.hs e2) ⟨p, rfl, by rw [wn_ni (hl_new (G' := H2) d.hs hp)]; exact h2⟩
theorem x_evW (hv : EvW K te σ (wn H (hl h l)) xs) : EvX te σ H h l (fun u G => ∃ p, u = .ref p ∧ SqT K G p xs) := fun H1 d Q q =>
  hv H1 (d.ex.trans wn_ex) Q fun p H2 e2 h2 => q _ H2 (Dr.of d.hs e2) ⟨p, rfl, by
    have q2 := d.hs.mono e2
    rcases h2 with (z | ⟨u, z⟩) | z
    · exact .inl (.inl (by rw [wn_ni (hl_kind q2 z (fun _ q => nomatch q))]; exact z))
    · exact .inl (.inr ⟨u, by rw [wn_ni (hl_kind q2 z (fun _ q => nomatch q))]; exact z⟩)
    · exact .inr z⟩
theorem x_evR {Pr : Addr → Hp → Prop} (hv : EvR te σ (wn H (hl h l)) (hl h l) Pr) : EvX te σ H h l (fun u G => ∃ p, u = .ref p ∧ Pr p G) := fun H1 d Q q =>
  hv H1 (d.ex.trans wn_ex) d.hs.kn Q fun p H2 _ e2 hP => q _ H2 (Dr.of d.hs e2) ⟨p, rfl, hP⟩
theorem EvX.imp {P P' : V → Hp → Prop} (hv : EvX te σ H h l P) (f : ∀ v G, P v G → P' v G) : EvX te σ H h l P' := fun H1 d Q q => hv H1 d Q fun v H2 d2 p => q v H2 d2 (f _ _ p)
theorem EvX.from {P : V → Hp → Prop} (d : Dr h l H H') (hv : EvX te σ H h l P) : EvX te σ H' h l P := fun H1 d1 Q q => hv H1 (d.trans d1) Q q
theorem EvI.imp (hv : EvI te σ H h l A) (f : ∀ i, A i → B i) : EvI te σ H h l B := fun H1 d Q q => hv H1 d Q fun v H2 d2 ⟨i, e, p⟩ => q v H2 d2 ⟨i, e, f i p⟩
theorem xi_op0 {g : Int → Int → Int} (ha : EvI ta σ H h l A) (hb : EvI tb σ H h l B) (hc : ∀ i j, A i → B j → D (g i j)) : EvI (tOp (rI0 fun i j => .int (g i j)) ta tb) σ H h l D := fun H1 d Q q =>
  ha H1 d _ fun _ H2 d2 ⟨i, e, hi⟩ => hb H2 (d.trans d2) _ fun _ H3 d3 ⟨j, e', hj⟩ => ⟨i, j, e, e', q _ H3 (d2.trans d3) ⟨_, rfl, hc i j hi hj⟩⟩
theorem xi_op {R : Int → Int → Prop} {g : Int → Int → Int} (ha : EvI ta σ H h l A) (hb : EvI tb σ H h l B) (hc : ∀ i j, A i → B j → R i j ∧ D (g i j)) : EvI (tOp (rI R fun i j => .int (g i j)) ta tb) σ H h l D := fun H1 d Q q =>
  ha H1 d _ fun _ H2 d2 ⟨i, e, hi⟩ => hb H2 (d.trans d2) _ fun _ H3 d3 ⟨j, e', hj⟩ => ⟨i, j, e, e', (hc i j hi hj).1, q _ H3 (d2.trans d3) ⟨_, rfl, (hc i j hi hj).2⟩⟩
theorem xi_drawn {E : XK} {cells : List Int} (hS : SqL K (wn H (hl h l)) l (cells.map V.int)) (ha : ∀ G, Ev ta σ G (.ref h)) (hb : EvI tb σ H h l A) (hA : ∀ i, A i → 0 < i ∧ i ≤ 1000000000000000000) : EvI (tCall (sp_drawn K) [] E (tCons ta (tCons tb tNil))) σ H h l (fun v => 0 ≤ v ∧ ∃ i, A i ∧ v < i) := fun H1 d Q q =>
  ha H1 H1 (Ex.refl _) _ fun H2 e2 => hb H2 (d.trans (Dr.of d.hs e2)) _ fun _ H3 d3 ⟨i, e, hi⟩ => by
    subst e
    exact ⟨h, l, cells, i, rfl, (hA i hi).1, (hA i hi).2, d3.hs, ex_l (((d.trans (Dr.of d.hs e2)).trans d3).ex) hS, fun v H4 v0 v1 d4 => q _ H4 (((Dr.of d.hs e2).trans d3).trans d4) ⟨v, rfl, v0, i, hi, v1⟩⟩
theorem xb_cmp {g : Int → Int → Bool} (ha : EvI ta σ H h l A) (hb : EvI tb σ H h l B) : EvX (tOp (rI0 fun i j => .bl (g i j)) ta tb) σ H h l (fun v _ => ∃ k, v = .bl k) := fun H1 d Q q =>
  ha H1 d _ fun _ H2 d2 ⟨i, e, _⟩ => hb H2 (d.trans d2) _ fun _ H3 d3 ⟨j, e', _⟩ => ⟨i, j, e, e', q _ H3 (d2.trans d3) ⟨_, rfl⟩⟩
theorem xb_eq (ha : EvI ta σ H h l A) (hb : EvI tb σ H h l B) : EvX (tOp rEq ta tb) σ H h l (fun v _ => ∃ k, v = .bl k) := fun H1 d Q q =>
  ha H1 d _ fun _ H2 d2 ⟨i, e, _⟩ => hb H2 (d.trans d2) _ fun _ H3 d3 ⟨j, e', _⟩ => by
    subst e e'
    exact ⟨rfl, q _ H3 (d2.trans d3) ⟨_, rfl⟩⟩
def rInt1 : List V → Hp → VK → Prop := fun xs H Q => (∃ i, xs = [.int i] ∧ Q (.int i) H) ∨ ∃ k, xs = [.bl k] ∧ Q (.int (if k then 1 else 0)) H
theorem xi_intb (ha : EvX ta σ H h l (fun v _ => ∃ k, v = .bl k)) : EvI (tCB rInt1 (tCons ta tNil)) σ H h l (fun i => i = 0 ∨ i = 1) := fun H1 d Q q =>
  ha H1 d _ fun _ H2 d2 ⟨k, e⟩ => .inr ⟨k, by rw [e], q _ H2 d2 ⟨_, rfl, by cases k <;> simp⟩⟩
theorem xt_test (ha : EvX ta σ H h l (fun v _ => ∃ k, v = .bl k)) : EvXT (tTest ta) σ H h l := fun H1 d Q q => ha H1 d _ fun _ H2 d2 ⟨k, e⟩ => ⟨k, e, q k H2 d2⟩
/-- [a, b][draw] -/
theorem xi_pick {n : Nat} {ns : List Int} (ha : EvL ta σ (wn H (hl h l)) (ns.map V.int)) (hb : EvI tb σ H h l B) (hn : ∀ i, B i → 0 ≤ i ∧ i < ns.length) : EvI (tOp (rIxL K) ta tb) σ H h l (fun i => i ∈ ns) := fun H1 d Q q =>
  x_evL ha H1 d _ fun _ H2 d2 ⟨p, e, hp⟩ => hb H2 (d.trans d2) _ fun _ H3 d3 ⟨j, e', hj⟩ => by
    subst e e'
    obtain ⟨j0, j1⟩ := hn j hj
    refine ⟨p, ns.map V.int, j, .int (ns.getD j.toNat 0), rfl, rfl, sq_of (wn_ex _ _ (d3.ex _ _ hp)), atI_mapI j0 j1, q _ H3 (d2.trans d3) ⟨_, rfl, ?_⟩⟩
    have hlt : j.toNat < ns.length := by omega
    have e : ns.getD j.toNat 0 = ns[j.toNat] := by simp [List.getD, hlt]
    rw [e]; exact List.getElem_mem hlt
/-- [e for i in range(n)], e drawn -/
theorem x_lcR {ta : TA} {jj : Nat} {vs : List Nat} {n : Int} (hn : EvA ta σ (wn H (hl h l)) [.int n]) (hz : 0 ≤ n ∧ n ≤ 40000) (hw : ∀ x, wipe ((wipe σ vs).set jj (some x)) vs = wipe σ vs)
    (he : ∀ (i : Nat) H1, Dr h l H H1 → (i : Int) < n → EvI te ((wipe σ vs).set jj (some (.int (i : Int)))) H1 h l A) : EvX (tLc (iRng1 ta) (gName jj) tYes te vs) σ H h l (LI fun ns => (ns.length : Int) = n ∧ ∀ x ∈ ns, A x) := fun H0 d0 Q q =>
  hn H0 (d0.ex.trans wn_ex) _ fun H1 e1 => ⟨n, rfl, by omega, by omega, fun Dl hD => by
    have d1 := Dr.of d0.hs e1
    have nD : ¬ hl h l Dl := hl_new (G' := H1) d1.hs hD
    have dn : Dr h l H1 (upd H1 Dl (.lst [])) := Dr.of d1.hs (Ex.new hD)
    refine lc_range (lo := 0) (n := n.toNat) (fun i H' => Dr h l H1 H' ∧ ∃ ns : List Int, H' Dl = some (.lst (ns.map V.int)) ∧ ns.length = i ∧ ∀ x ∈ ns, A x) ⟨dn, [], upd_same, rfl, by simp⟩ (fun i H' hi p => ?_) (fun H' p => ?_)
    · obtain ⟨d2, ns, h2, hl2, hA⟩ := p
      have e0 : (0 : Int) + (i : Int) = (i : Int) := Int.zero_add _
      show wipe ((wipe σ vs).set jj (some (.int ((0 : Int) + (i : Int))))) vs = wipe σ vs ∧ _
      refine ⟨hw _, ?_⟩
      show te ((wipe σ vs).set jj (some (.int ((0 : Int) + (i : Int))))) H' _
      rw [e0]
      refine he i H' ((d0.trans d1).trans d2) (by omega) H' (Dr.refl d2.hs) _ fun v H3 d3 hv => ?_
      obtain ⟨k, rfl, hk⟩ := hv
      have h3 : H3 Dl = some (.lst (ns.map V.int)) := wn_ex _ _ (d3.ex _ _ (by rw [wn_ni nD]; exact h2))
      have d5 : Dr h l H1 (upd H3 Dl (.lst (ns.map V.int ++ [.int k]))) := ⟨by
        obtain ⟨p0, m, r, a1, rr⟩ := d3.hs
        exact ⟨p0, m, r, by rw [upd_ne (fun z => nD z.symm)]; exact a1, rr⟩, fun b u hb => by
        obtain ⟨q1, q2⟩ := wn_some hb
        have z := wn_ex _ _ ((d2.trans d3).ex b u hb)
        rw [wn_ni q1, upd_ne (ne_of_none q2 hD)]
        exact z⟩
      refine ⟨_, h3, by rw [List.length_map]; exact sz_lt (by omega), d5, ns ++ [k], by rw [upd_same, List.map_append]; rfl, by rw [List.length_append, hl2]; rfl, fun x hx => ?_⟩
      rcases List.mem_append.mp hx with z | z
      · exact hA x z
      · rw [List.mem_singleton.mp z]; exact hk
    · obtain ⟨d2, ns, h2, hl2, hA⟩ := p
      exact q _ H' (d1.trans d2) ⟨Dl, ns, rfl, by rw [wn_ni nD]; exact h2, by omega, hA⟩⟩
/-- statements whose values are drawn -/
theorem x_ret {P : V → Hp → Prop} {D : Ends} (hs : HS H h l) (hx : EvX te σ H h l P) (k : ∀ v H2, Dr h l H H2 → P v (wn H2 (hl h l)) → D.rt v H2) : tRet te D σ H := hx H (Dr.refl hs) _ k
theorem x_asgG {P : V → Hp → Prop} {D : Ends} {tz : TS} {g : TG} (hs : HS H h l) (hx : EvX te σ H h l P) (k : ∀ v H2, Dr h l H H2 → P v (wn H2 (hl h l)) → g v σ H2 (tz D)) : tSeq (tAsg te g) tz D σ H := hx H (Dr.refl hs) _ k
theorem x_asg {P : V → Hp → Prop} {D : Ends} {tz : TS} {n : Nat} (hs : HS H h l) (hx : EvX te σ H h l P) (k : ∀ v H2, Dr h l H H2 → P v (wn H2 (hl h l)) → tz D (σ.set n (some v)) H2) : tSeq (tAsg te (gName n)) tz D σ H := hx H (Dr.refl hs) _ k
theorem x_asgI {D : Ends} {tz : TS} {n : Nat} (hs : HS H h l) (hx : EvI te σ H h l A) (k : ∀ i H2, Dr h l H H2 → A i → tz D (σ.set n (some (.int i))) H2) : tSeq (tAsg te (gName n)) tz D σ H := hx H (Dr.refl hs) _ fun _ H2 d ⟨i, e, p⟩ => by subst e; exact k i H2 d p
theorem x_par {P Q : V → Hp → Prop} {D : Ends} {tz : TS} {m n : Nat} (hs : HS H h l) (hx : EvX ta σ H h l P) (hy : EvX tb σ H h l Q) (k : ∀ v w H1 H2, Dr h l H H1 → Dr h l H1 H2 → P v (wn H1 (hl h l)) → Q w (wn H2 (hl h l)) → tz D ((σ.set m (some v)).set n (some w)) H2) : tSeq (tPar m n (tCons ta (tCons tb tNil))) tz D σ H :=
  hx H (Dr.refl hs) _ fun v H1 d1 p1 => hy H1 d1 _ fun w H2 d2 p2 => ⟨v, w, rfl, k v w H1 H2 d1 d2 p1 p2⟩
theorem x_if {D : Ends} {tt : TT} {tu tw tz : TS} (hs : HS H h l) (hx : EvXT tt σ H h l) (h1 : ∀ H2, Dr h l H H2 → tu { D with nx := tz D } σ H2) (h2 : ∀ H2, Dr h l H H2 → tw { D with nx := tz D } σ H2) : tSeq (tIfS tt tu tw) tz D σ H := hx H (Dr.refl hs) _ fun b H2 d => by
  cases b with
  | true => exact h1 H2 d
  | false => exact h2 H2 d
theorem x_ifK {M : L2.St → Hp → Prop} {D : Ends} {tt : TT} {tu tw tz : TS} (hs : HS H h l) (hx : EvXT tt σ H h l) (fin : ∀ σ' H', M σ' H' → tz D σ' H') (h1 : ∀ H2, Dr h l H H2 → (∀ σ' H', M σ' H' → tz D σ' H') → tu { D with nx := tz D } σ H2)
    (h2 : ∀ H2, Dr h l H H2 → (∀ σ' H', M σ' H' → tz D σ' H') → tw { D with nx := tz D } σ H2) : tSeq (tIfS tt tu tw) tz D σ H := x_if hs hx (fun H2 d => h1 H2 d fin) (fun H2 d => h2 H2 d fin)
/-- a call all of whose arguments are drawn: the first ones plain -/
theorem x_call3 {sp : Sp} {E : XK} {P : V → Hp → Prop} {u : V} (ha : ∀ G, Ev ta σ G u) (hb : EvI tb σ H h l A) (hc : EvI tc σ H h l B) (hp : ∀ i j H1, A i → B j → Dr h l H H1 → ∀ Q : VK, (∀ v H2, Dr h l H1 H2 → P v (wn H2 (hl h l)) → Q v H2) → sp [u, .int i, .int j] H1 Q E) :
    EvX (tCall sp [] E (tCons ta (tCons tb (tCons tc tNil)))) σ H h l P := fun H1 d Q q =>
  ha H1 H1 (Ex.refl _) _ fun H2 e2 => hb H2 (d.trans (Dr.of d.hs e2)) _ fun _ H3 d3 ⟨i, e, hi⟩ => hc H3 ((d.trans (Dr.of d.hs e2)).trans d3) _ fun _ H4 d4 ⟨j, e', hj⟩ => by
    subst e e'
    exact hp i j H4 hi hj (((d.trans (Dr.of d.hs e2)).trans d3).trans d4) Q fun v H5 d5 p => q v H5 ((((Dr.of d.hs e2)).trans d3).trans (d4.trans d5)) p
theorem x_tupL {A : List Int → Prop} (ha : EvX ta σ H h l (LI A)) : EvX (tCB (rTupS K) (tCons ta tNil)) σ H h l (TI' A) := fun H1 d Q q =>
  ha H1 d _ fun _ H2 d2 ⟨p, ns, e, hp, hA⟩ => ⟨p, ns.map V.int, by rw [e], .inl ⟨sq_of (wn_ex _ _ hp), fun t ht => by
    have d3 := Dr.of d2.hs (Ex.new (o := .tup (ns.map V.int)) ht)
    exact q _ _ (d2.trans d3) ⟨t, ns, rfl, by rw [wn_ni (hl_new (G' := H2) d2.hs ht)]; exact upd_same, hA⟩⟩⟩
theorem ew_cat (ha : EvW K ta σ H xs) (hb : EvW K tb σ H ys) (hz : xs.length + ys.length ≤ 100000) : EvW K (tOp (rCatA K) ta tb) σ H (xs ++ ys) := fun H1 e Q q =>
  ha H1 e _ fun p H2 e2 h2 => hb H2 (e.trans e2) _ fun r H3 e3 h3 => ⟨p, r, xs, ys, rfl, rfl, ex_t e3 h2, h3, sz_of hz,
    fun z => q r H3 (e2.trans e3) (by rw [z]; exact h3), fun _ z => q p H3 (e2.trans e3) (by rw [z, List.append_nil]; exact ex_t e3 h2),
    fun _ _ t ht => q t _ ((e2.trans e3).trans (Ex.new ht)) (st_of upd_same)⟩
theorem ew_drop {tl : TE} {k : Nat} (ha : EvW K te σ H xs) (hk : Ev tl σ H (.int (k : Int))) : EvW K (tSl (rSlA K) te (tPart tl) tNoPart) σ H (xs.drop k) := fun H1 e Q q =>
  ha H1 e _ fun p H2 e2 h2 => hk H2 (e.trans e2) _ fun H3 e3 => ⟨(k : Int), rfl, p, xs, rfl, ex_t e3 h2, fun w => by
      have hi : min k xs.length = 0 := by rw [← HT.sIx_nat xs.length 0 k]; exact w.1
      have t : xs.drop k = xs := by
        rcases Nat.eq_zero_or_pos k with z | z
        · rw [z]; rfl
        · have : xs.length = 0 := by omega
          rw [List.length_eq_zero_iff.mp this]; simp
      rw [t] at q
      exact q p H3 (e2.trans e3) (ex_t e3 h2), fun _ r hr => by
      refine q r _ ((e2.trans e3).trans (Ex.new hr)) (st_of ?_)
      rw [upd_same]
      unfold cutV
      rw [HT.sIx_none, HT.sIx_nat]
      congr 2
      by_cases hk : k ≤ xs.length
      · rw [Nat.min_eq_left hk, List.take_of_length_le (by simp)]
      · rw [Nat.min_eq_right (by omega)]
        simp [List.drop_eq_nil_of_le (Nat.le_of_not_le hk)]⟩
end
end Sw
namespace Sw
/-! ### rules: the mathematics -/
inductive RK where
  | fix (a : Int)
  | ref (g : Int)
  | sol (a m : Int)
def RK.bake : RK → Nat → Int → Int → Int
  | .fix a, _, _, _ => a
  | .ref g, _, st, _ => max 0 (g - st)
  | .sol a m, d, _, so => if d = 0 then a else max 0 (min 1000000000 (so + m))
structure RSt where
  st : Int
  so : Int
  rc : List Int
def dem (ds : List Int) (d : Nat) : Int := ds.getD (d % ds.length) 0
def rbak (rk : RK) (d : Nat) (s : RSt) : Int := rk.bake d s.st s.so
def rrec (rk : RK) (d : Nat) (s : RSt) : List Int := rbak rk d s :: s.rc.dropLast
def rsol (rk : RK) (ds : List Int) (d : Nat) (s : RSt) : Int := min (s.st + rbak rk d s) (dem ds d)
def rlef (rk : RK) (ds : List Int) (d : Nat) (s : RSt) : Int := s.st + rbak rk d s - rsol rk ds d s
def rnew (rk : RK) (ds : List Int) (d : Nat) (s : RSt) : Int := min (rlef rk ds d s) (rrec rk d s).dropLast.sum
def rst (rk : RK) (ds : List Int) (L : Nat) : Nat → RSt
  | 0 => ⟨0, 0, List.replicate L 0⟩
  | d + 1 => ⟨rnew rk ds d (rst rk ds L d), rsol rk ds d (rst rk ds L d), rrec rk d (rst rk ds L d)⟩
def rrow (rk : RK) (ds : List Int) (L d : Nat) : List Int :=
  [rbak rk d (rst rk ds L d), rsol rk ds d (rst rk ds L d), dem ds d - rsol rk ds d (rst rk ds L d), rlef rk ds d (rst rk ds L d) - rnew rk ds d (rst rk ds L d)]
def rrows (rk : RK) (ds : List Int) (L n : Nat) : List (List Int) := (List.range n).map (rrow rk ds L)
/-- the sums of a column -/
def rcol (rk : RK) (ds : List Int) (L n j : Nat) : Int := psum (fun d => (rrow rk ds L d).getD j 0) n
section
variable {rk : RK} {ds : List Int} {L d : Nat}
theorem rc_len (hL : 1 ≤ L) : (rst rk ds L d).rc.length = L := by
  induction d with
  | zero => simp [rst]
  | succ d ih =>
    show (rrec rk d (rst rk ds L d)).length = L
    unfold rrec
    rw [List.length_cons, List.length_dropLast, ih]
    omega
/-- the goods of a rule -/
def RK.ok : RK → Prop
  | .fix a => 0 ≤ a ∧ a ≤ 1000000000
  | .ref g => 0 ≤ g ∧ g ≤ 1000000000
  | .sol a m => 0 ≤ a ∧ a ≤ 1000000000 ∧ -1000000000 ≤ m ∧ m ≤ 1000000000
theorem bake_nn (h : rk.ok) (d : Nat) (st so : Int) : 0 ≤ rk.bake d st so := by
  cases rk with
  | fix a => exact h.1
  | ref g => show 0 ≤ max 0 _; omega
  | sol a m =>
    show 0 ≤ if d = 0 then a else max 0 _
    have := h.1
    by_cases z : d = 0
    · rw [if_pos z]; omega
    · rw [if_neg z]; omega
theorem sum_nn : ∀ {xs : List Int}, (∀ x ∈ xs, 0 ≤ x) → 0 ≤ xs.sum
  | [], _ => by simp
  | x :: xs, h => by
    have h1 := h x List.mem_cons_self
    have h2 := sum_nn fun y hy => h y (List.mem_cons_of_mem _ hy)
    simp only [List.sum_cons]; omega
theorem dem_nn (hd : ∀ x ∈ ds, 0 ≤ x ∧ x ≤ 1000000000) (d : Nat) : 0 ≤ dem ds d ∧ dem ds d ≤ 1000000000 := getD_mem0 hd
theorem rst_nn (h : rk.ok) (hd : ∀ x ∈ ds, 0 ≤ x ∧ x ≤ 1000000000) (d : Nat) : 0 ≤ (rst rk ds L d).st ∧ ∀ x ∈ (rst rk ds L d).rc, 0 ≤ x := by
  induction d with
  | zero =>
    refine ⟨Int.le_refl 0, fun x hx => ?_⟩
    have := List.eq_of_mem_replicate (show x ∈ List.replicate L (0 : Int) from hx)
    omega
  | succ d ih =>
    obtain ⟨h1, h2⟩ := ih
    have hb := bake_nn h d (rst rk ds L d).st (rst rk ds L d).so
    have hrec : ∀ x ∈ rrec rk d (rst rk ds L d), 0 ≤ x := fun x hx => by
      rcases List.mem_cons.mp hx with z | z
      · rw [z]; exact hb
      · exact h2 x ((List.dropLast_sublist _).mem z)
    refine ⟨?_, hrec⟩
    show 0 ≤ min (rlef rk ds d _) _
    have hs := sum_nn fun x hx => hrec x ((List.dropLast_sublist _).mem hx)
    have hl : 0 ≤ rlef rk ds d (rst rk ds L d) := by unfold rlef rsol; omega
    omega
/-- what comes in goes out or stays -/
theorem balance (n : Nat) : psum (fun d => (rrow rk ds L d).getD 0 0) n - psum (fun d => (rrow rk ds L d).getD 1 0) n - psum (fun d => (rrow rk ds L d).getD 3 0) n = (rst rk ds L n).st := by
  induction n with
  | zero => simp [psum, rst]
  | succ n ih =>
    show (psum _ n + (rrow rk ds L n).getD 0 0) - (psum _ n + (rrow rk ds L n).getD 1 0) - (psum _ n + (rrow rk ds L n).getD 3 0) = rnew rk ds n (rst rk ds L n)
    have e0 : (rrow rk ds L n).getD 0 0 = rbak rk n (rst rk ds L n) := rfl
    have e1 : (rrow rk ds L n).getD 1 0 = rsol rk ds n (rst rk ds L n) := rfl
    have e3 : (rrow rk ds L n).getD 3 0 = rlef rk ds n (rst rk ds L n) - rnew rk ds n (rst rk ds L n) := rfl
    have el : rlef rk ds n (rst rk ds L n) = (rst rk ds L n).st + rbak rk n (rst rk ds L n) - rsol rk ds n (rst rk ds L n) := rfl
    omega
theorem customers (n : Nat) : psum (fun d => (rrow rk ds L d).getD 1 0) n + psum (fun d => (rrow rk ds L d).getD 2 0) n = psum (dem ds) n := by
  induction n with
  | zero => simp [psum]
  | succ n ih =>
    show (psum _ n + (rrow rk ds L n).getD 1 0) + (psum _ n + (rrow rk ds L n).getD 2 0) = psum _ n + dem ds n
    have e1 : (rrow rk ds L n).getD 1 0 = rsol rk ds n (rst rk ds L n) := rfl
    have e2 : (rrow rk ds L n).getD 2 0 = dem ds n - rsol rk ds n (rst rk ds L n) := rfl
    omega
/-- a refill rule begins each day with its goal -/
theorem refill_le {g : Int} (hg : 0 ≤ g) (hd : ∀ x ∈ ds, 0 ≤ x ∧ x ≤ 1000000000) (d : Nat) : (rst (.ref g) ds L d).st ≤ g := by
  induction d with
  | zero => exact hg
  | succ d ih =>
    show min (rlef (.ref g) ds d _) _ ≤ g
    have := (dem_nn hd d).1
    have hb : rbak (.ref g) d (rst (.ref g) ds L d) = max 0 (g - (rst (.ref g) ds L d).st) := rfl
    unfold rlef rsol
    omega
theorem refill_day {g : Int} (hg : 0 ≤ g) (hd : ∀ x ∈ ds, 0 ≤ x ∧ x ≤ 1000000000) (d : Nat) : (rst (.ref g) ds L d).st + rbak (.ref g) d (rst (.ref g) ds L d) = g := by
  have := refill_le (L := L) hg hd d
  have hb : rbak (.ref g) d (rst (.ref g) ds L d) = max 0 (g - (rst (.ref g) ds L d).st) := rfl
  omega
theorem refill_miss {g : Int} (hg : 0 ≤ g) (hd : ∀ x ∈ ds, 0 ≤ x ∧ x ≤ 1000000000) (d : Nat) : (rrow (.ref g) ds L d).getD 2 0 = dem ds d - min g (dem ds d) := by
  show dem ds d - rsol (.ref g) ds d _ = _
  unfold rsol
  rw [refill_day hg hd]
theorem psum_le {f g : Nat → Int} (h : ∀ d, f d ≤ g d) : ∀ n, psum f n ≤ psum g n
  | 0 => Int.le_refl _
  | n + 1 => by
    have := psum_le h n
    have := h n
    show psum f n + f n ≤ psum g n + g n
    omega
theorem refill_more {g g' : Int} (hg : 0 ≤ g) (hgg : g ≤ g') (hd : ∀ x ∈ ds, 0 ≤ x ∧ x ≤ 1000000000) (n : Nat) : rcol (.ref g') ds L n 2 ≤ rcol (.ref g) ds L n 2 := by
  unfold rcol
  refine psum_le (fun d => ?_) n
  rw [refill_miss hg hd, refill_miss (by omega) hd]
  omega
/-! ### a fixed rule is a bakery -/
theorem fix_rc {a : Int} (hL : 1 ≤ L) : (rst (.fix a) ds L d).rc = (List.range L).map fun i => if i < d then a else 0 := by
  induction d with
  | zero =>
    show List.replicate L 0 = _
    refine List.ext_getElem (by simp) fun i h1 h2 => ?_
    simp
  | succ d ih =>
    show a :: (rst (.fix a) ds L d).rc.dropLast = _
    rw [ih]
    obtain ⟨M, rfl⟩ : ∃ M, L = M + 1 := ⟨L - 1, by omega⟩
    have e : (List.map (fun i => if i < d then a else 0) (List.range (M + 1))).dropLast = (List.range M).map fun i => if i < d then a else 0 := by
      rw [List.range_succ, List.map_append, List.map_cons, List.map_nil, List.dropLast_concat]
    rw [e, List.range_succ_eq_map, List.map_cons, List.map_map]
    rw [if_pos (by omega)]
    congr 1
    refine List.map_congr_left fun i _ => ?_
    show (if i < d then a else 0) = if i + 1 < d + 1 then a else 0
    by_cases z : i < d
    · rw [if_pos z, if_pos (by omega)]
    · rw [if_neg z, if_neg (by omega)]
theorem sum_step (a : Int) (m : Nat) : ∀ n : Nat, ((List.range n).map fun i => if i < m then a else 0).sum = a * ((min m n : Nat) : Int)
  | 0 => by simp
  | n + 1 => by
    rw [List.range_succ, List.map_append, List.sum_append, sum_step a m n]
    simp only [List.map_cons, List.map_nil, List.sum_cons, List.sum_nil, Int.add_zero]
    by_cases z : n < m
    · rw [if_pos z]
      have e1 : min m n = n := by omega
      have e2 : min m (n + 1) = n + 1 := by omega
      rw [e1, e2, Int.natCast_succ, Int.mul_add, Int.mul_one]
    · rw [if_neg z]
      have e1 : min m n = m := by omega
      have e2 : min m (n + 1) = m := by omega
      rw [e1, e2, Int.add_zero]
theorem fix_keep {a : Int} (hL : 1 ≤ L) : (rrec (.fix a) d (rst (.fix a) ds L d)).dropLast.sum = a * ((min (d + 1) (L - 1) : Nat) : Int) := by
  have e : rrec (.fix a) d (rst (.fix a) ds L d) = (rst (.fix a) ds L (d + 1)).rc := rfl
  rw [e, fix_rc hL]
  obtain ⟨M, rfl⟩ : ∃ M, L = M + 1 := ⟨L - 1, by omega⟩
  rw [List.range_succ, List.map_append, List.map_cons, List.map_nil, List.dropLast_concat, sum_step]
  rfl
theorem keep_fix {a : Int} {n i : Nat} {life : Int} (hn : 0 < n) : keepAt (List.replicate n a) life i = a * ((life - 1).toNat : Int) := by
  unfold keepAt
  have e : ((List.range (life - 1).toNat).map fun (age : Nat) => (List.replicate n a).getD ((((i : Int) - (age : Int)) % ((List.replicate n a).length : Int)).toNat) 0) = (List.range (life - 1).toNat).map fun j => if j < (life - 1).toNat then a else 0 := by
    refine List.map_congr_left fun j hj => ?_
    rw [if_pos (List.mem_range.mp hj)]
    have hl : (List.replicate n a).length = n := List.length_replicate
    have h1 : 0 ≤ ((i : Int) - (j : Int)) % (n : Int) := Int.emod_nonneg _ (by omega)
    have h2 : ((i : Int) - (j : Int)) % (n : Int) < (n : Int) := Int.emod_lt_of_pos _ (by omega)
    rw [hl, List.getD_eq_getElem?_getD, List.getElem?_replicate, if_pos (by omega)]
    rfl
  rw [e, sum_step, Nat.min_self]
theorem fix_day {a : Int} (ha : 0 ≤ a) (hL : 1 ≤ L) (hn : 0 < ds.length) (hd : ∀ x ∈ ds, 0 ≤ x ∧ x ≤ 1000000000) : ∀ d, (rst (.fix a) ds L d).st = dayS (List.replicate ds.length a) ds (keepL (List.replicate ds.length a) (L : Int)) d ∧ (rst (.fix a) ds L d).st ≤ a * (d : Int)
  | 0 => ⟨rfl, by show (0 : Int) ≤ a * ((0 : Nat) : Int); simp⟩
  | d + 1 => by
    obtain ⟨h1, h2⟩ := fix_day ha hL hn hd d
    have hdn := (dem_nn hd d).1
    have hl : (List.replicate ds.length a).length = ds.length := List.length_replicate
    have hm : d % ds.length < ds.length := Nat.mod_lt _ hn
    have eb : (List.replicate ds.length a).getD (d % ds.length) 0 = a := by
      rw [List.getD_eq_getElem?_getD, List.getElem?_replicate, if_pos hm]; rfl
    have ek : (keepL (List.replicate ds.length a) (L : Int)).getD (d % ds.length) 0 = a * ((L - 1 : Nat) : Int) := by
      unfold keepL
      rw [List.getD_eq_getElem?_getD, List.getElem?_map, hl, List.getElem?_range hm]
      show keepAt _ _ _ = _
      rw [keep_fix hn]
      congr 2
      omega
    have e : dayS (List.replicate ds.length a) ds (keepL (List.replicate ds.length a) (L : Int)) (d + 1) = min (max 0 ((rst (.fix a) ds L d).st + a - dem ds d)) (a * ((L - 1 : Nat) : Int)) := by
      show stp _ _ _ _ = _
      rw [hl, eb, ek, ← h1]
      rfl
    have e2 : (rst (.fix a) ds L (d + 1)).st = min (rlef (.fix a) ds d (rst (.fix a) ds L d)) (a * ((min (d + 1) (L - 1) : Nat) : Int)) := by
      show min _ _ = _
      rw [fix_keep hL]
    have hlef : rlef (.fix a) ds d (rst (.fix a) ds L d) = max 0 ((rst (.fix a) ds L d).st + a - dem ds d) := by
      have hb : rbak (.fix a) d (rst (.fix a) ds L d) = a := rfl
      unfold rlef rsol
      rw [hb]
      omega
    have hup : rlef (.fix a) ds d (rst (.fix a) ds L d) ≤ a * ((d + 1 : Nat) : Int) := by
      rw [hlef, Int.natCast_succ, Int.mul_add, Int.mul_one]
      have : 0 ≤ a * (d : Int) := Int.mul_nonneg ha (by omega)
      omega
    refine ⟨?_, by rw [e2]; omega⟩
    rw [e, e2, ← hlef]
    rcases Nat.le_total (d + 1) (L - 1) with z | z
    · have e3 : min (d + 1) (L - 1) = d + 1 := by omega
      have hmono : a * ((d + 1 : Nat) : Int) ≤ a * ((L - 1 : Nat) : Int) := Int.mul_le_mul_of_nonneg_left (by omega) ha
      rw [e3]
      omega
    · have e3 : min (d + 1) (L - 1) = L - 1 := by omega
      rw [e3]
theorem fix_row {a : Int} (ha : 0 ≤ a) (hL : 1 ≤ L) (hn : 0 < ds.length) (hd : ∀ x ∈ ds, 0 ≤ x ∧ x ≤ 1000000000) (d : Nat) :
    rrow (.fix a) ds L d = [a, solS (List.replicate ds.length a) ds (keepL (List.replicate ds.length a) (L : Int)) d, misS (List.replicate ds.length a) ds (keepL (List.replicate ds.length a) (L : Int)) d, thrS (List.replicate ds.length a) ds (keepL (List.replicate ds.length a) (L : Int)) d] := by
  have h1 := (fix_day ha hL hn hd d).1
  have h2 := (fix_day ha hL hn hd (d + 1)).1
  have hl : (List.replicate ds.length a).length = ds.length := List.length_replicate
  have hm : d % ds.length < ds.length := Nat.mod_lt _ hn
  have ebk : bk (List.replicate ds.length a) d = a := by
    unfold bk
    rw [hl, List.getD_eq_getElem?_getD, List.getElem?_replicate, if_pos hm]; rfl
  have edm : dm (List.replicate ds.length a) ds d = dem ds d := by unfold dm dem; rw [hl]
  have hb : rbak (.fix a) d (rst (.fix a) ds L d) = a := rfl
  have es : rsol (.fix a) ds d (rst (.fix a) ds L d) = solS (List.replicate ds.length a) ds (keepL (List.replicate ds.length a) (L : Int)) d := by
    unfold rsol solS misS
    rw [hb, ebk, edm, ← h1]
    omega
  have em : dem ds d - rsol (.fix a) ds d (rst (.fix a) ds L d) = misS (List.replicate ds.length a) ds (keepL (List.replicate ds.length a) (L : Int)) d := by
    rw [es]
    unfold solS
    rw [edm]
    omega
  have et : rlef (.fix a) ds d (rst (.fix a) ds L d) - rnew (.fix a) ds d (rst (.fix a) ds L d) = thrS (List.replicate ds.length a) ds (keepL (List.replicate ds.length a) (L : Int)) d := by
    have h3 : rnew (.fix a) ds d (rst (.fix a) ds L d) = (rst (.fix a) ds L (d + 1)).st := rfl
    rw [h3, h2]
    unfold thrS rlef
    rw [hb, es, ebk, ← h1]
    omega
  unfold rrow
  rw [hb, em, es, et]
end
end Sw
namespace Sw
open PySem PySem.Spec PyProof.Rows L2 Evl
local macro_rules | `(tactic| walk_at "ev") => `(tactic| first
  | exact ev_c
  | exact ev_var rfl
  | ((with_reducible show Ev (tCB rMax2 _) _ _ _); exact ev_maxi (by walk_at "ev") (by walk_at "ev"))
  | ((with_reducible show Ev (tCB rMn _) _ _ _); exact ev_min2 (by walk_at "ev") (by walk_at "ev"))
  | ((with_reducible show Ev (tUn _ _) _ _ _); exact ev_un (by walk_at "ev") ru_neg)
  | ((with_reducible show Ev (tFld _ _ _) _ _ _); exact ev_fldK (by walk_at "ev") (by assumption))
  | ((with_reducible show Ev (tOp (rI0 _) _ _) _ _ _); exact ev_op (by walk_at "ev") (by walk_at "ev") rv_I0)
  | ((with_reducible show Ev (tOp rEq _ _) _ _ _); exact ev_op (by walk_at "ev") (by walk_at "ev") (rv_eq rfl))
  | ((with_reducible show Ev (tOp rNe _ _) _ _ _); exact ev_op (by walk_at "ev") (by walk_at "ev") (rv_ne rfl)))

/-! ### rules: their objects -/
section
variable {K : PySem.W.Frag} {σ : L2.St} {H : Hp} {te ta tb : TE} {a : Addr} {xs : List V} {v : V}
theorem cutV_init (xs : List V) : cutV xs none (some (-1)) = xs.dropLast := by
  unfold cutV
  have e1 : HT.sIx xs.length 0 none = (0 : Nat) := HT.sIx_none _ _
  have e2 : HT.sIx xs.length xs.length (some (-1)) = xs.length - 1 := by
    show (if (-1 : Int) < 0 then ((-1 : Int) + (xs.length : Int)).toNat else min (-1 : Int).toNat xs.length) = _
    rw [if_pos (by decide)]
    omega
  rw [e1, e2, List.drop_zero, List.dropLast_eq_take]
  rfl
theorem el_init (h : Ev te σ H (.ref a)) (hx : SqL K H a xs) (hm : Ev tb σ H (.int (-1))) : EvL (tSl (rSlL K) te tNoPart (tPart tb)) σ H xs.dropLast := by
  rw [← cutV_init]
  exact el_sl h eo_none (eo_some hm) hx
theorem el_repR {n : Int} (ha : EvL ta σ H [v]) (hb : Ev tb σ H (.int n)) (h0 : 0 ≤ n) (h1 : n ≤ 1000) : EvL (tOp rRep ta tb) σ H (List.replicate n.toNat v) := fun H1 e Q k =>
  ha H1 e _ fun p H2 np e2 hp => hb H2 (e.trans e2) _ fun H3 e3 => ⟨p, n, [v], rfl, rfl, e3 _ _ hp, by omega, by omega, by simp only [List.length_cons, List.length_nil, sizeLine_eq]; omega, fun q hq => by
    have z : (List.replicate n.toNat [v]).flatten = List.replicate n.toNat v := by simp
    rw [z]
    exact k q _ (fresh_back (e2.trans e3) hq) ((e2.trans e3).trans (Ex.new hq)) upd_same⟩
end
def sp_part : Sp := fun vs H Q _ => ∃ (s : Str) (n lo : Int), vs = [.str s, .int n, .int lo] ∧ lo ≤ n ∧ n ≤ 1000000000 ∧ RetV .non H Q
theorem spv_part {H : Hp} {s : Str} {n lo : Int} (h1 : lo ≤ n) (h2 : n ≤ 1000000000) : SpV sp_part [.str s, .int n, .int lo] H .non := fun _ _ _ q _ => ⟨s, n, lo, rfl, h1, h2, q⟩
/-- the fields of a rule that is made -/
def ruleC (Z : Ad) : RK → Addr
  | .fix _ => Z.c_Rule
  | .ref _ => Z.c_RefillRule
  | .sol _ _ => Z.c_SoldRule
def ruleF : RK → List (Str × V)
  | .fix a => putF "_amount" (.int a) []
  | .ref g => putF "_goal" (.int g) []
  | .sol a m => putF "_more" (.int m) (putF "_amount" (.int a) [])
/-- a rule object -/
structure RuleR (Z : Ad) (H : Hp) (r dx : Addr) (rk : RK) : Prop where
  ins : H r = some (.ins (ruleC Z rk) dx (ruleF rk))
  own : H dx = some (.own r)
theorem RuleR.mono {Z : Ad} {H H' : Hp} {r dx : Addr} {rk : RK} (e : Ex H H') (h : RuleR Z H r dx rk) : RuleR Z H' r dx rk := ⟨e _ _ h.ins, e _ _ h.own⟩
/-- it is being made: self has no field yet -/
def sp_Rinit (Z : Ad) (kind : RK → Prop) (mk : List V → RK → Prop) : Sp := fun vs H Q _ => ∃ (x dx : Addr) (ws : List V) (rk : RK), vs = .ref x :: ws ∧ mk ws rk ∧ kind rk ∧ rk.ok ∧ H x = some (.ins (ruleC Z rk) dx []) ∧
  ∀ H', H' x = some (.ins (ruleC Z rk) dx (ruleF rk)) → (∀ b o, H b = some o → b ≠ x → H' b = some o) → Q .non H'
def isFix : RK → Prop | .fix _ => True | _ => False
def isRef : RK → Prop | .ref _ => True | _ => False
def isSol : RK → Prop | .sol _ _ => True | _ => False
def mkFix (ws : List V) (rk : RK) : Prop := ∃ a, ws = [.int a] ∧ rk = .fix a
def mkRef (ws : List V) (rk : RK) : Prop := ∃ g, ws = [.int g] ∧ rk = .ref g
def mkSol (ws : List V) (rk : RK) : Prop := ∃ a m, ws = [.int a, .int m] ∧ rk = .sol a m
/-- Rule.__init__, of a rule or of one that is derived from it -/
def sp_Rule (Z : Ad) : Sp := fun vs H Q _ => ∃ (x dx C : Addr) (a : Int), vs = [.ref x, .int a] ∧ (C = Z.c_Rule ∨ C = Z.c_SoldRule) ∧ 0 ≤ a ∧ a ≤ 1000000000 ∧ H x = some (.ins C dx []) ∧
  ∀ H', H' x = some (.ins C dx (putF "_amount" (.int a) [])) → (∀ b o, H b = some o → b ≠ x → H' b = some o) → Q .non H'
variable {P : Program} {w : World} {K : PySem.W.Frag} {mg : Str → Option Value} {base : Heap} {Z : Ad}
theorem ok_check_part (T : Txt K mg Z) : FnOk P w K mg base CX0 1 Z.f_check_part Z.d_check_part p_check_part sp_part := by
  refine T.F_check_part.ok sc_check_part (fun vs H Q E h => ?_) (fun cdv Ar outer s H vs Q E hr h => ?_)
  · obtain ⟨s, n, lo, rfl, _⟩ := h
    rfl
  · obtain ⟨s, n, lo, rfl, h1, h2, k⟩ := h
    refine ⟨_, (pss_one (ps_if (PW.pt (pw_or (pt_cmpR op_lt (pv 1) (pv 2) (nomark _)) (pw_or1 (pt_cmpR op_gt (pv 1) (pe_glob (v := .int 1000000000) (by rfl) T.g_MOST_LOAVES ⟨_, rfl⟩) (nomark _))))) (pss_one ps_no) pss_nil)), ?_⟩
    refine s_when (b := false) (et_is (et_or (et_test (by walk_at "ev")) fun _ => et_test (by walk_at "ev")) (by simp; omega)) (fun hb => nomatch hb) fun _ H1 e1 => k H1 e1
theorem ok_Rule___init__ (T : Txt K mg Z) : FnOk P w K mg base CX0 2 Z.f_Rule___init__ Z.d_Rule___init__ p_Rule___init__ (sp_Rule Z) := by
  refine T.F_Rule___init__.ok sc_Rule___init__ (fun vs H Q E h => ?_) (fun cdv Ar outer s H vs Q E hr h => ?_)
  · obtain ⟨x, dx, C, a, rfl, _⟩ := h
    rfl
  · obtain ⟨x, dx, C, a, rfl, hC, a0, a1, hx, k⟩ := h
    refine ⟨_, (pss_cons (ps_expr (pe_call (ok_check_part T) (hr.mono (by decide)) (by rfl) T.g_check_part T.F_check_part.kp T.b_check_part .nil pass0 (pa_cons pe_str (pa_cons (pv 1) (pa_cons pe_int pa_nil)))))
      (pss_one (ps_fld (pv 0) (pv 1) rfl))), ?_⟩
    refine q_drop (ev_call (ea_cons ev_c (ea_cons (ev_var rfl) (ea_cons ev_c ea_nil))) (spv_part a0 a1)) fun H1 e1 => ?_
    have go : ∀ {D : Ends} (c : Cls K C) (n : NoAttr K C "_amount"), (∀ H', H' x = some (.ins C dx (putF "_amount" (.int a) [])) → (∀ b o, H1 b = some o → b ≠ x → H' b = some o) → D.nx [some (.ref x), some (.int a)] H') → sFld K (tVar 0) (tVar 1) "_amount" D [some (.ref x), some (.int a)] H1 := fun c n q =>
      s_fld (ev_var rfl) (fun _ _ => ev_var rfl) (e1 _ _ hx) c n (by decide) fun H2 e2 => q _ upd_same fun b o hb hne => by rw [upd_ne hne]; exact e2 b o hb
    rcases hC with rfl | rfl
    · exact go T.cl_Rule T.na_Rule__amount fun H' h1 h2 => k H' h1 fun b o hb hne => h2 b o (e1 b o hb) hne
    · exact go T.cl_SoldRule T.na_SoldRule__amount fun H' h1 h2 => k H' h1 fun b o hb hne => h2 b o (e1 b o hb) hne
theorem ok_RefillRule___init__ (T : Txt K mg Z) : FnOk P w K mg base CX0 2 Z.f_RefillRule___init__ Z.d_RefillRule___init__ p_RefillRule___init__ (sp_Rinit Z isRef mkRef) := by
  refine T.F_RefillRule___init__.ok sc_RefillRule___init__ (fun vs H Q E h => ?_) (fun cdv Ar outer s H vs Q E hr h => ?_)
  · obtain ⟨x, dx, ws, rk, rfl, ⟨g, rfl, _⟩, _⟩ := h
    rfl
  · obtain ⟨x, dx, ws, rk, rfl, ⟨g, rfl, rfl⟩, _, ⟨g0, g1⟩, hx, k⟩ := h
    refine ⟨_, (pss_cons (ps_expr (pe_call (ok_check_part T) (hr.mono (by decide)) (by rfl) T.g_check_part T.F_check_part.kp T.b_check_part .nil pass0 (pa_cons pe_str (pa_cons (pv 1) (pa_cons pe_int pa_nil)))))
      (pss_one (ps_fld (pv 0) (pv 1) rfl))), ?_⟩
    refine q_drop (ev_call (ea_cons ev_c (ea_cons (ev_var rfl) (ea_cons ev_c ea_nil))) (spv_part g0 g1)) fun H1 e1 => ?_
    exact s_fld (ev_var rfl) (fun _ _ => ev_var rfl) (e1 _ _ hx) T.cl_RefillRule T.na_RefillRule__goal (by decide) fun H2 e2 => k _ upd_same fun b o hb hne => by rw [upd_ne hne]; exact e2 b o (e1 b o hb)
/-! ### what they bake -/
def sp_baked (Z : Ad) (kind : RK → Prop) : Sp := fun vs H Q _ => ∃ (r dx : Addr) (rk : RK) (d : Nat) (st so : Int), vs = [.ref r, .int (d : Int), .int st, .int so] ∧ kind rk ∧ RuleR Z H r dx rk ∧ RetV (.int (rk.bake d st so)) H Q
theorem ok_Rule_count_baked (T : Txt K mg Z) : FnOk P w K mg base CX0 1 Z.f_Rule_count_baked Z.d_Rule_count_baked p_Rule_count_baked (sp_baked Z isFix) := by
  refine T.F_Rule_count_baked.ok sc_Rule_count_baked (fun vs H Q E h => ?_) (fun cdv Ar outer s H vs Q E hr h => ?_)
  · obtain ⟨r, dx, rk, d, st, so, rfl, _⟩ := h
    rfl
  · obtain ⟨r, dx, rk, d, st, so, rfl, hk, hR, k⟩ := h
    cases rk with
    | fix a =>
      have fa : FlK K H r Z.c_Rule "_amount" (.int a) := flk_of hR.ins T.cl_Rule T.na_Rule__amount rfl
      refine ⟨_, (pss_one (ps_ret (pe_fldK K rfl (pv 0) rfl))), ?_⟩
      exact s_ret (by walk_at "ev") fun H1 e1 => k H1 e1
    | ref g => exact hk.elim
    | sol a m => exact hk.elim
theorem ok_RefillRule_count_baked (T : Txt K mg Z) : FnOk P w K mg base CX0 1 Z.f_RefillRule_count_baked Z.d_RefillRule_count_baked p_RefillRule_count_baked (sp_baked Z isRef) := by
  refine T.F_RefillRule_count_baked.ok sc_RefillRule_count_baked (fun vs H Q E h => ?_) (fun cdv Ar outer s H vs Q E hr h => ?_)
  · obtain ⟨r, dx, rk, d, st, so, rfl, _⟩ := h
    rfl
  · obtain ⟨r, dx, rk, d, st, so, rfl, hk, hR, k⟩ := h
    cases rk with
    | fix a => exact hk.elim
    | ref g =>
      have fg : FlK K H r Z.c_RefillRule "_goal" (.int g) := flk_of hR.ins T.cl_RefillRule T.na_RefillRule__goal rfl
      refine ⟨_, (pss_one (ps_ret (pe_callB (r := rMax2) (call_max2 rfl) (by rfl) T.b_max boot_max (pa_cons pe_int (pa_cons (pe_op op_sub (pe_fldK K rfl (pv 0) rfl) (pv 2)) pa_nil))))), ?_⟩
      exact s_ret (ev_maxi ev_c (ev_op (by walk_at "ev") (ev_var rfl) rv_I0)) fun H1 e1 => k H1 e1
    | sol a m => exact hk.elim
theorem ok_SoldRule_count_baked (T : Txt K mg Z) : FnOk P w K mg base CX0 1 Z.f_SoldRule_count_baked Z.d_SoldRule_count_baked p_SoldRule_count_baked (sp_baked Z isSol) := by
  refine T.F_SoldRule_count_baked.ok sc_SoldRule_count_baked (fun vs H Q E h => ?_) (fun cdv Ar outer s H vs Q E hr h => ?_)
  · obtain ⟨r, dx, rk, d, st, so, rfl, _⟩ := h
    rfl
  · obtain ⟨r, dx, rk, d, st, so, rfl, hk, hR, k⟩ := h
    cases rk with
    | fix a => exact hk.elim
    | ref g => exact hk.elim
    | sol a m =>
      have fa : FlK K H r Z.c_SoldRule "_amount" (.int a) := flk_of hR.ins T.cl_SoldRule T.na_SoldRule__amount rfl
      have fm : FlK K H r Z.c_SoldRule "_more" (.int m) := flk_of hR.ins T.cl_SoldRule T.na_SoldRule__more rfl
      refine ⟨_, (pss_cons (ps_if (pt_cmpR op_eq (pv 1) pe_int (nomark _)) (pss_one (ps_ret (pe_fldK K rfl (pv 0) rfl))) pss_nil)
      (pss_one (ps_ret (pe_callB (r := rMax2) (call_max2 rfl) (by rfl) T.b_max boot_max (pa_cons pe_int (pa_cons (pe_callB (r := rMn) (call_min2 rfl) (by rfl) T.b_min boot_min (pa_cons (pe_glob (v := .int 1000000000) (by rfl) T.g_MOST_LOAVES ⟨_, rfl⟩) (pa_cons (pe_op op_add (pv 3) (pe_fldK K rfl (pv 0) rfl)) pa_nil))) pa_nil)))))), ?_⟩
      refine q_when (b := decide (d = 0)) (et_test (ev_is (ev_op (ev_var rfl) ev_c (rv_eq rfl)) ?_)) (fun hb H1 e1 => ?_) (fun hb H1 e1 => ?_)
      · have z : (V.int (d : Int) = V.int 0) ↔ d = 0 := ⟨fun z => by injection z with z; omega, fun z => by rw [z]; rfl⟩
        simp [z]
      · have hd : d = 0 := by simpa using hb
        have fa1 := fa.mono e1
        refine s_ret (by walk_at "ev") fun H2 e2 => ?_
        have z := k H2 (e1.trans e2)
        rw [show (RK.sol a m).bake d st so = a from if_pos hd] at z
        exact z
      · have hd : ¬ d = 0 := by simpa using hb
        have fm1 := fm.mono e1
        refine s_ret (ev_maxi ev_c (ev_min2 ev_c (ev_op (ev_var rfl) (by walk_at "ev") rv_I0))) fun H2 e2 => ?_
        have z := k H2 (e1.trans e2)
        rw [show (RK.sol a m).bake d st so = max 0 (min 1000000000 (so + m)) from if_neg hd] at z
        exact z
end Sw
namespace Sw
open PySem PySem.Spec PyProof.Rows L2 Evl GnX
local macro_rules | `(tactic| walk_at "ev") => `(tactic| first
  | exact ev_c
  | exact ev_var rfl
  | ((with_reducible show Ev (tCB rMax2 _) _ _ _); exact ev_maxi (by walk_at "ev") (by walk_at "ev"))
  | ((with_reducible show Ev (tCB rMn _) _ _ _); exact ev_min2 (by walk_at "ev") (by walk_at "ev"))
  | ((with_reducible show Ev (tUn _ _) _ _ _); exact ev_un (by walk_at "ev") ru_neg)
  | ((with_reducible show Ev (tFld _ _ _) _ _ _); exact ev_fldK (by walk_at "ev") (by assumption))
  | ((with_reducible show Ev (tOp (rI0 _) _ _) _ _ _); exact ev_op (by walk_at "ev") (by walk_at "ev") rv_I0)
  | ((with_reducible show Ev (tOp rEq _ _) _ _ _); exact ev_op (by walk_at "ev") (by walk_at "ev") (rv_eq rfl))
  | ((with_reducible show Ev (tOp rNe _ _) _ _ _); exact ev_op (by walk_at "ev") (by walk_at "ev") (rv_ne rfl)))

/-! ### run -/
section
variable {D : GE} {k i j : Nat} {σ : L2.St} {H : Hp} {te ta tb : TE} {t : TA} {u tz : TG2} {v z : V} {xs vs dvs : List V} {K : PySem.W.Frag} {sp : Sp} {E : XK}
theorem g_drop (h : Ev te σ H v) (q : ∀ H1, Ex H H1 → u D k σ H1) : tGThen2 (tPlain2 (tDrop te)) u D k σ H := h H (Ex.refl _) _ fun H1 e => q H1 e
theorem g_forR1 {ta : TA} {n : Int} (h : EvA ta σ H [.int n]) (hn : 0 ≤ n ∧ n ≤ 100000) (Pv : Nat → Nat → L2.St → Hp → Prop) (h0 : ∀ H1, Ex H H1 → Pv 0 k σ H1)
    (hs : ∀ (i k : Nat) σ' H', (i : Int) < n → Pv i k σ' H' → tz { nx := Pv (i + 1), bk := fun k' σ' H' => u D k' σ' H', ct := Pv (i + 1) } k (σ'.set j (some (.int (i : Int)))) H') (hd : ∀ k σ' H', Pv n.toNat k σ' H' → u D k σ' H') : tGThen2 (tGFor2 (iRng1 ta) (gName j) tz) u D k σ H :=
  h H (Ex.refl H) _ fun H1 e => ⟨n, rfl, by omega, by omega, fun i m k σ H => m = n.toNat - i ∧ i ≤ n.toNat ∧ Pv i k σ H, ⟨n.toNat, by simp, Nat.zero_le _, h0 H1 e⟩, by
    rintro i m k σ H ⟨rfl, hi, p⟩
    by_cases hlt : i < n.toNat
    · refine .inr ⟨hlt, Pv (i + 1), fun k' σ' H' q => ⟨n.toNat - (i + 1), by omega, rfl, hlt, q⟩, fun x H' y => ?_⟩
      obtain ⟨rfl, rfl⟩ := y
      have z := hs i k σ H' (by omega) p
      have e0 : (0 : Int) + (i : Int) = (i : Int) := Int.zero_add _
      show tz _ k (σ.set j (some (.int ((0 : Int) + (i : Int))))) H'
      rw [e0]
      exact z
    · have e1 : i = n.toNat := by omega
      subst e1
      exact .inl ⟨Nat.le_refl _, hd k σ H p⟩⟩
theorem el_isV {ys : List V} (h : EvL te σ H ys) (e : ys = xs) : EvL te σ H xs := e ▸ h
theorem ew_rep1 {n : Int} (ha : EvU ta σ H [v]) (hb : Ev tb σ H (.int n)) (h0 : 1 ≤ n) (h1 : n ≤ 1000) : EvW K (tOp (rRep1 K) ta tb) σ H (List.replicate n.toNat v) := fun H1 e Q q =>
  ha H1 e _ fun p H2 np e2 hp => hb H2 (e.trans e2) _ fun H3 e3 => ⟨p, n, [v], rfl, rfl, st_of (e3 _ _ hp), by simp, h0, h1, by simp, fun hk => q p H3 (e2.trans e3) (by rw [hk]; exact st_of (e3 _ _ hp)), fun r hr => q r _ ((e2.trans e3).trans (Ex.new hr)) (by
    have z : (List.replicate n.toNat [v]).flatten = List.replicate n.toNat v := by simp
    rw [z]
    exact st_of upd_same)⟩
theorem ev_callW (ha : EvW K ta σ H xs) (hb : EvA t σ H vs) (hs : ∀ p H1, Ex H H1 → SqT K H1 p xs → SpV sp (.ref p :: (vs ++ dvs)) H1 z) : Ev (tCall sp dvs E (tCons ta t)) σ H z := fun H1 e Q q =>
  ha H1 e _ fun p H2 e2 hp => hb H2 (e.trans e2) _ fun H3 e3 => hs p H3 ((e.trans e2).trans e3) (ex_t e3 hp) H3 (Ex.refl _) Q (fun H4 e4 => q H4 ((e2.trans e3).trans e4)) E
theorem spv_check {a b : Addr} {bs ds : List Int} {life : Int} (h1 : SqT K H a (bs.map V.int)) (h2 : SqT K H b (ds.map V.int)) (gd : Good bs ds) (l0 : 1 ≤ life) (l1 : life ≤ 30) : SpV (sp_check K) [.ref a, .ref b, .int life] H .non := fun _ e _ q _ => ⟨a, b, bs, ds, life, rfl, ex_t e h1, ex_t e h2, gd, l0, l1, q⟩
theorem spv_baked {Z : Ad} {kind : RK → Prop} {r dx : Addr} {rk : RK} {d : Nat} {st so : Int} (h : RuleR Z H r dx rk) (hk : kind rk) : SpV (sp_baked Z kind) [.ref r, .int (d : Int), .int st, .int so] H (.int (rk.bake d st so)) := fun _ e _ q _ => ⟨r, dx, rk, d, st, so, rfl, hk, h.mono e, q⟩
end
theorem sqt_rep {K : PySem.W.Frag} {H : Hp} {p : Addr} {m : Nat} {c : Int} (h : SqT K H p (List.replicate ((m : Int)).toNat (V.int c))) : SqT K H p ((List.replicate m c).map V.int) := by
  rw [List.map_replicate]
  rw [Int.toNat_natCast] at h
  exact h
theorem mod_nat {L : Nat} (i : Nat) (hL : 0 < L) : 0 ≤ (i : Int) % (L : Int) ∧ (i : Int) % (L : Int) < (L : Int) ∧ ((i : Int) % (L : Int)).toNat = i % L := by
  refine ⟨Int.emod_nonneg _ (by omega), Int.emod_lt_of_pos _ (by omega), ?_⟩
  omega
/-- what run reads of its caller's -/
def cnOf (Z : Ad) (r dx td : Addr) (rk : RK) (ds : List Int) : Kn := [(r, .ins (ruleC Z rk) dx (ruleF rk)), (dx, .own r), (td, .tup (ds.map V.int))]
theorem cn_look {Z : Ad} {r dx td : Addr} {rk : RK} {ds : List Int} {b : Addr} {u : HO} (h : (cnOf Z r dx td rk ds).lookup b = some u) : (b = r ∧ u = .ins (ruleC Z rk) dx (ruleF rk)) ∨ (b = dx ∧ u = .own r) ∨ (b = td ∧ u = .tup (ds.map V.int)) := by
  rcases List.mem_cons.mp (mem_look h) with z | z
  · exact .inl ⟨congrArg Prod.fst z, congrArg Prod.snd z⟩
  · rcases List.mem_cons.mp z with z | z
    · exact .inr (.inl ⟨congrArg Prod.fst z, congrArg Prod.snd z⟩)
    · have z := List.mem_singleton.mp z
      exact .inr (.inr ⟨congrArg Prod.fst z, congrArg Prod.snd z⟩)
theorem look_hd {b : Addr} {u : HO} {l : Kn} : ((b, u) :: l).lookup b = some u := by rw [List.lookup_cons, beq_self_eq_true]
theorem look_tl {b c : Addr} {u : HO} {l : Kn} (h : b ≠ c) : ((c, u) :: l).lookup b = l.lookup b := by
  rw [List.lookup_cons]
  have z : (b == c) = false := beq_eq_false_iff_ne.mpr h
  rw [z]
theorem knows_cn {Z : Ad} {H : Hp} {r dx td : Addr} {rk : RK} {ds : List Int} (h : RuleR Z H r dx rk) (ht : H td = some (.tup (ds.map V.int))) : Knows (cnOf Z r dx td rk ds) H := fun b u e => by
  rcases cn_look e with ⟨rfl, rfl⟩ | ⟨rfl, rfl⟩ | ⟨rfl, rfl⟩
  · exact h.ins
  · exact h.own
  · exact ht
theorem knows_run {Z : Ad} {H : Hp} {r dx td : Addr} {rk : RK} {ds : List Int} (h : Knows (cnOf Z r dx td rk ds) H) (hne : r ≠ dx ∧ td ≠ r ∧ td ≠ dx) : RuleR Z H r dx rk ∧ H td = some (.tup (ds.map V.int)) :=
  ⟨⟨h _ _ look_hd, h _ _ ((look_tl (Ne.symm hne.1)).trans look_hd)⟩, h _ _ ((look_tl hne.2.1).trans ((look_tl hne.2.2).trans look_hd))⟩
theorem cn_ne {Z : Ad} {H : Hp} {r dx td : Addr} {rk : RK} {ds : List Int} (h : RuleR Z H r dx rk) (ht : H td = some (.tup (ds.map V.int))) : r ≠ dx ∧ td ≠ r ∧ td ≠ dx :=
  ⟨ne_of h.ins h.own (fun z => by cases z), ne_of ht h.ins (fun z => by cases z), ne_of ht h.own (fun z => by cases z)⟩
theorem cn_clo {Z : Ad} {H : Hp} {r dx td : Addr} {rk : RK} {ds : List Int} (h : RuleR Z H r dx rk) (ht : H td = some (.tup (ds.map V.int))) : Clo (cnOf Z r dx td rk ds) := fun b u e => by
  obtain ⟨n1, n2, n3⟩ := cn_ne h ht
  rcases cn_look e with ⟨rfl, rfl⟩ | ⟨rfl, rfl⟩ | ⟨rfl, rfl⟩
  · exact (look_tl (Ne.symm n1)).trans look_hd
  · exact ⟨_, _, look_hd⟩
  · trivial
theorem rrows_len {rk : RK} {ds : List Int} {L n : Nat} : (rrows rk ds L n).length = n := by simp [rrows]
theorem rrows_get {rk : RK} {ds : List Int} {L n i : Nat} (h : i < n) : ((rrows rk ds L n).map (·.map V.int))[i]? = some ((rrow rk ds L i).map V.int) := by
  unfold rrows
  rw [List.getElem?_map, List.getElem?_map, List.getElem?_range h]
  rfl
def sp_run (Z : Ad) : SpGn := fun vs H cn rows => ∃ (r dx td : Addr) (rk : RK) (ds : List Int) (L n : Nat), vs = [.ref r, .ref td, .int (L : Int), .int (n : Int)] ∧ RuleR Z H r dx rk ∧ rk.ok ∧ H td = some (.tup (ds.map V.int)) ∧ 0 < ds.length ∧ ds.length ≤ 24 ∧ (∀ x ∈ ds, 0 ≤ x ∧ x ≤ 1000000000) ∧ 1 ≤ L ∧ L ≤ 30 ∧ n ≤ 10000 ∧
  cn = cnOf Z r dx td rk ds ∧ rows = (rrows rk ds L n).map (·.map V.int)
variable {P : Program} {w : World} {K : PySem.W.Frag} {mg : Str → Option Value} {base : Heap} {Z : Ad}
set_option maxHeartbeats 8000000 in
theorem ok_run (T : Txt K mg Z) : GFact P w K mg base 3 Z.f_run Z.d_run p_run (sp_run Z) := by
  refine fun_gn T.F_run sc_run sn_run (fun vs H cn rows h => ?_) (fun vs H cn rows h => ?_) (fun cdv Ar outer n0 H vs cn rows WK CY CE hr h => ?_)
  · obtain ⟨r, dx, td, rk, ds, L, n, rfl, _⟩ := h
    rfl
  · obtain ⟨r, dx, td, rk, ds, L, n, rfl, hR, hok, htd, n0', n1, hd, hL0, hL1, hn, rfl, rfl⟩ := h
    exact ⟨cn_clo hR htd, knows_cn hR htd⟩
  · obtain ⟨r, dx, td, rk, ds, L, n, rfl, hR, hok, htd, n0', n1, hd, hL0, hL1, hn, rfl, rfl⟩ := h
    have hrd := cn_ne hR htd
    have hlen : (((ds.map V.int).length : Nat) : Int) = (ds.length : Int) := by rw [List.length_map]
    have gd : Good (List.replicate ds.length 0) ds := ⟨by rw [List.length_replicate]; exact n0', by rw [List.length_replicate]; exact n1, by rw [List.length_replicate], fun x hx => by have := List.eq_of_mem_replicate hx; omega, hd⟩
    rcases rk with a | g | ⟨a, m⟩
    · refine ⟨_, (GnX.gss2_cons (GnX.gs2_ps (fun _ _ => (ps_expr (pe_call (ok_check_bakery T) (hr.mono (by decide)) (by rfl) T.g_check_bakery T.F_check_bakery.kp T.b_check_bakery .nil pass0 (pa_cons (pe_op (op_rep1K K rfl) (pe_tup (pa_cons pe_int pa_nil)) (pe_callB (r := rLenS K) (call_len_seq) (by rfl) T.b_len boot_len (pa_cons (pv 1) pa_nil))) (pa_cons (pv 1) (pa_cons (pv 2) pa_nil)))))))
      (GnX.gss2_cons (GnX.gs2_ps (fun _ _ => (ps_expr (pe_call (ok_check_number T) (hr.mono (by decide)) (by rfl) T.g_check_number T.F_check_number.kp T.b_check_number .nil pass0 (pa_cons (pv 3) (pa_cons pe_int (pa_cons (pe_glob (v := .int 10000) (by rfl) T.g_MOST_RULE_DAYS ⟨_, rfl⟩) pa_nil)))))))
      (GnX.gss2_cons (GnX.gs2_ps (fun _ _ => (ps_asg2 pe_int (pg_name (i := 4) sc_run.nd rfl (Or.inl rfl)) (pg_name (i := 5) sc_run.nd rfl (Or.inl rfl)))))
      (GnX.gss2_cons (GnX.gs2_ps (fun _ _ => (ps_set (i := 6) sc_run.nd rfl (Or.inl rfl) (pe_op op_rep (pe_lst (pa_cons pe_int pa_nil)) (pv 2)))))
      (GnX.gss2_cons (GnX.gs2_for (fun _ _ => (pi_range1 (by rfl) T.b_range (pa_cons (pv 3) pa_nil))) (fun _ _ => (pg_name (i := 7) sc_run.nd rfl (Or.inl rfl))) (GnX.gss2_cons (GnX.gs2_ps (fun _ _ => (ps_set (i := 8) sc_run.nd rfl (Or.inl rfl) (pe_ix (r := rIxT K) ix_tup (pv 1) (pe_op op_mod (pv 7) (pe_callB (r := rLenS K) (call_len_seq) (by rfl) T.b_len boot_len (pa_cons (pv 1) pa_nil))) (fun _ _ => rfl)))))
      (GnX.gss2_cons (GnX.gs2_ps (fun _ _ => (ps_set (i := 9) sc_run.nd rfl (Or.inl rfl) (pe_meth (pv 0) T.cl_Rule T.m_Rule_count_baked (ok_Rule_count_baked T) (hr.mono (by decide)) T.b_Rule_count_baked .nil pass0 (pa_cons (pv 7) (pa_cons (pv 4) (pa_cons (pv 5) pa_nil)))))))
      (GnX.gss2_cons (GnX.gs2_ps (fun _ _ => (ps_set (i := 6) sc_run.nd rfl (Or.inl rfl) (pe_op op_cat (pe_lst (pa_cons (pv 9) pa_nil)) (pe_slice (r := rSlL K) sl_list (pv 6) po_none (po_some (pe_un un_neg pe_int)))))))
      (GnX.gss2_cons (GnX.gs2_ps (fun _ _ => (ps_set (i := 5) sc_run.nd rfl (Or.inl rfl) (pe_callB (r := rMn) (call_min2 rfl) (by rfl) T.b_min boot_min (pa_cons (pe_op op_add (pv 4) (pv 9)) (pa_cons (pv 8) pa_nil))))))
      (GnX.gss2_cons (GnX.gs2_ps (fun _ _ => (ps_set (i := 10) sc_run.nd rfl (Or.inl rfl) (pe_op op_sub (pe_op op_add (pv 4) (pv 9)) (pv 5)))))
      (GnX.gss2_cons (GnX.gs2_ps (fun _ _ => (ps_set (i := 4) sc_run.nd rfl (Or.inl rfl) (pe_callB (r := rMn) (call_min2 rfl) (by rfl) T.b_min boot_min (pa_cons (pv 10) (pa_cons (pe_callB (r := rSum K) (cr_sum rfl) (by rfl) T.b_sum boot_sum (pa_cons (pe_slice (r := rSlL K) sl_list (pv 6) po_none (po_some (pe_un un_neg pe_int))) pa_nil)) pa_nil))))))
      (GnX.gss2_cons (GnX.gs2_yield (fun _ _ => (pe_tup (pa_cons (pv 9) (pa_cons (pv 5) (pa_cons (pe_op op_sub (pv 8) (pv 5)) (pa_cons (pe_op op_sub (pv 10) (pv 4)) pa_nil)))))) rfl rfl)
      GnX.gss2_nil))))))) (by intro _; rfl))
      GnX.gss2_nil))))), ?_⟩
      intro H0 hk0
      obtain ⟨hR0, ht0⟩ := knows_run hk0 hrd
      refine g_drop (ev_callW (ew_rep1 (n := (ds.length : Int)) (eu_tup (ea_cons ev_c ea_nil) (by show 1 ≤ 100000; decide)) (Ev.int_eq (ev_lenT (ev_var rfl) (st_of ht0)) hlen) (by omega) (by omega)) (ea_cons (ev_var rfl) (ea_cons (ev_var rfl) ea_nil)) fun p G eG hp => spv_check (sqt_rep hp) (ex_t eG (st_of ht0)) gd (by omega) (by omega)) fun H1 e1 => ?_
      refine g_drop (ev_call (ea_cons (ev_var rfl) (ea_cons ev_c (ea_cons ev_c ea_nil))) (spv_num (by omega) (by omega))) fun H2 e2 => ?_
      refine g_asg2 ev_c fun H3 e3 => ?_
      refine g_asgL (xs := (List.replicate L (0 : Int)).map V.int) (el_isV (el_repR (el_lst (ea_cons ev_c ea_nil) (by show 1 ≤ 100000; decide)) (ev_var rfl) (by omega) (by omega)) (by simp)) fun p H4 np e4 hp => ?_
      have k4 := hk0.ex (((e1.trans e2).trans e3).trans e4)
      refine g_forR1 (n := (n : Int)) (ea_cons (ev_var rfl) ea_nil) ⟨by omega, by omega⟩ (fun i k σ' H' => k = i ∧ Knows (cnOf Z r dx td (RK.fix a) ds) H' ∧ ∃ (p : Addr) (x7 x8 x9 x10 : Option V), H' p = some (.lst ((rst (RK.fix a) ds L i).rc.map V.int)) ∧
        σ' = [some (.ref r), some (.ref td), some (.int (L : Int)), some (.int (n : Int)), some (.int (rst (RK.fix a) ds L i).st), some (.int (rst (RK.fix a) ds L i).so), some (.ref p), x7, x8, x9, x10]) (fun H5 e5 => ⟨rfl, k4.ex e5, p, _, _, _, _, e5 _ _ hp, rfl⟩) ?_ ?_
      · rintro i0 i σ' H' hi ⟨rfl, kn, p, x7, x8, x9, x10, hp, rfl⟩
        obtain ⟨hR, ht⟩ := knows_run kn hrd
        have hm := mod_nat i n0'
        refine g_asg (v := .int (dem ds i)) (ev_ixT (ev_var rfl) (st_of ht) (ev_op (ev_var rfl) (Ev.int_eq (ev_lenT (ev_var rfl) (st_of ht)) hlen) (rv_I (by show (0 : Int) < _; omega))) (by rw [atI_mapI hm.1 hm.2.1, hm.2.2]; rfl)) fun H1 e1 => ?_
        refine g_asg (v := .int (rbak (RK.fix a) i (rst (RK.fix a) ds L i))) (ev_meth (ev_var rfl) ⟨dx, _, (hR.mono e1).ins, rfl⟩ (ea_cons (ev_var rfl) (ea_cons (ev_var rfl) (ea_cons (ev_var rfl) ea_nil))) (spv_baked (hR.mono e1) trivial)) fun H2 e2 => ?_
        have hp2 := (e1.trans e2) _ _ hp
        refine g_asgL (xs := (rrec (RK.fix a) i (rst (RK.fix a) ds L i)).map V.int) (el_isV (el_catN (el_lst (ea_cons (ev_var rfl) ea_nil) (by show 1 ≤ 100000; decide)) (el_init (ev_var rfl) (sq_of hp2) (ev_un ev_c ru_neg)) (by rw [List.length_dropLast, List.length_map, rc_len hL0]; simp; omega)) (by simp [rrec, List.map_dropLast])) fun p2 H3 np2 e3 hp3 => ?_
        refine g_asg (v := .int (rsol (RK.fix a) ds i (rst (RK.fix a) ds L i))) (ev_min2 (ev_op (ev_var rfl) (ev_var rfl) rv_I0) (ev_var rfl)) fun H4 e4 => ?_
        refine g_asg (v := .int (rlef (RK.fix a) ds i (rst (RK.fix a) ds L i))) (ev_op (ev_op (ev_var rfl) (ev_var rfl) rv_I0) (ev_var rfl) rv_I0) fun H5 e5 => ?_
        have hp5 := (e4.trans e5) _ _ hp3
        refine g_asg (v := .int (rnew (RK.fix a) ds i (rst (RK.fix a) ds L i))) (ev_min2 (ev_var rfl) (ev_sumN (ns := (rrec (RK.fix a) i (rst (RK.fix a) ds L i)).dropLast) (el_isV (el_init (ev_var rfl) (sq_of hp5) (ev_un ev_c ru_neg)) (by rw [List.map_dropLast])))) fun H6 e6 => ?_
        have kn6 := kn.ex ((((e1.trans e2).trans e3).trans (e4.trans e5)).trans e6)
        refine g_yield (B := ⟨plOf P w K mg base n_run "run" (L2.defScope s_run) Z.f_run cdv Ar outer n0, cnOf Z r dx td (RK.fix a) ds, (rrows (RK.fix a) ds L n).map (·.map V.int), WK, CY, CE⟩) (row := (rrow (RK.fix a) ds L i).map V.int) (xs := (rrec (RK.fix a) i (rst (RK.fix a) ds L i)).map V.int) (l := p2) (by show i < ((rrows (RK.fix a) ds L n).map (·.map V.int)).length; rw [List.length_map, rrows_len]; omega)
          ?_ (rrows_get (by omega)) kn6 (e6 _ _ hp5) (new_out (kn.ex (e1.trans e2)) np2) fun G kG hG => ?_
        rotate_left
        · exact ⟨rfl, kG, p2, _, _, _, _, hG, rfl⟩
        exact eu_tup (ea_cons (ev_var rfl) (ea_cons (ev_var rfl) (ea_cons (ev_op (ev_var rfl) (ev_var rfl) rv_I0) (ea_cons (ev_op (ev_var rfl) (ev_var rfl) rv_I0) ea_nil)))) (by show 4 ≤ 100000; decide)
      · rintro k σ' H' ⟨hk, kn, _⟩
        exact ⟨by show k = ((rrows (RK.fix a) ds L n).map (·.map V.int)).length; rw [List.length_map, rrows_len]; omega, kn⟩
    · refine ⟨_, (GnX.gss2_cons (GnX.gs2_ps (fun _ _ => (ps_expr (pe_call (ok_check_bakery T) (hr.mono (by decide)) (by rfl) T.g_check_bakery T.F_check_bakery.kp T.b_check_bakery .nil pass0 (pa_cons (pe_op (op_rep1K K rfl) (pe_tup (pa_cons pe_int pa_nil)) (pe_callB (r := rLenS K) (call_len_seq) (by rfl) T.b_len boot_len (pa_cons (pv 1) pa_nil))) (pa_cons (pv 1) (pa_cons (pv 2) pa_nil)))))))
      (GnX.gss2_cons (GnX.gs2_ps (fun _ _ => (ps_expr (pe_call (ok_check_number T) (hr.mono (by decide)) (by rfl) T.g_check_number T.F_check_number.kp T.b_check_number .nil pass0 (pa_cons (pv 3) (pa_cons pe_int (pa_cons (pe_glob (v := .int 10000) (by rfl) T.g_MOST_RULE_DAYS ⟨_, rfl⟩) pa_nil)))))))
      (GnX.gss2_cons (GnX.gs2_ps (fun _ _ => (ps_asg2 pe_int (pg_name (i := 4) sc_run.nd rfl (Or.inl rfl)) (pg_name (i := 5) sc_run.nd rfl (Or.inl rfl)))))
      (GnX.gss2_cons (GnX.gs2_ps (fun _ _ => (ps_set (i := 6) sc_run.nd rfl (Or.inl rfl) (pe_op op_rep (pe_lst (pa_cons pe_int pa_nil)) (pv 2)))))
      (GnX.gss2_cons (GnX.gs2_for (fun _ _ => (pi_range1 (by rfl) T.b_range (pa_cons (pv 3) pa_nil))) (fun _ _ => (pg_name (i := 7) sc_run.nd rfl (Or.inl rfl))) (GnX.gss2_cons (GnX.gs2_ps (fun _ _ => (ps_set (i := 8) sc_run.nd rfl (Or.inl rfl) (pe_ix (r := rIxT K) ix_tup (pv 1) (pe_op op_mod (pv 7) (pe_callB (r := rLenS K) (call_len_seq) (by rfl) T.b_len boot_len (pa_cons (pv 1) pa_nil))) (fun _ _ => rfl)))))
      (GnX.gss2_cons (GnX.gs2_ps (fun _ _ => (ps_set (i := 9) sc_run.nd rfl (Or.inl rfl) (pe_meth (pv 0) T.cl_RefillRule T.m_RefillRule_count_baked (ok_RefillRule_count_baked T) (hr.mono (by decide)) T.b_RefillRule_count_baked .nil pass0 (pa_cons (pv 7) (pa_cons (pv 4) (pa_cons (pv 5) pa_nil)))))))
      (GnX.gss2_cons (GnX.gs2_ps (fun _ _ => (ps_set (i := 6) sc_run.nd rfl (Or.inl rfl) (pe_op op_cat (pe_lst (pa_cons (pv 9) pa_nil)) (pe_slice (r := rSlL K) sl_list (pv 6) po_none (po_some (pe_un un_neg pe_int)))))))
      (GnX.gss2_cons (GnX.gs2_ps (fun _ _ => (ps_set (i := 5) sc_run.nd rfl (Or.inl rfl) (pe_callB (r := rMn) (call_min2 rfl) (by rfl) T.b_min boot_min (pa_cons (pe_op op_add (pv 4) (pv 9)) (pa_cons (pv 8) pa_nil))))))
      (GnX.gss2_cons (GnX.gs2_ps (fun _ _ => (ps_set (i := 10) sc_run.nd rfl (Or.inl rfl) (pe_op op_sub (pe_op op_add (pv 4) (pv 9)) (pv 5)))))
      (GnX.gss2_cons (GnX.gs2_ps (fun _ _ => (ps_set (i := 4) sc_run.nd rfl (Or.inl rfl) (pe_callB (r := rMn) (call_min2 rfl) (by rfl) T.b_min boot_min (pa_cons (pv 10) (pa_cons (pe_callB (r := rSum K) (cr_sum rfl) (by rfl) T.b_sum boot_sum (pa_cons (pe_slice (r := rSlL K) sl_list (pv 6) po_none (po_some (pe_un un_neg pe_int))) pa_nil)) pa_nil))))))
      (GnX.gss2_cons (GnX.gs2_yield (fun _ _ => (pe_tup (pa_cons (pv 9) (pa_cons (pv 5) (pa_cons (pe_op op_sub (pv 8) (pv 5)) (pa_cons (pe_op op_sub (pv 10) (pv 4)) pa_nil)))))) rfl rfl)
      GnX.gss2_nil))))))) (by intro _; rfl))
      GnX.gss2_nil))))), ?_⟩
      intro H0 hk0
      obtain ⟨hR0, ht0⟩ := knows_run hk0 hrd
      refine g_drop (ev_callW (ew_rep1 (n := (ds.length : Int)) (eu_tup (ea_cons ev_c ea_nil) (by show 1 ≤ 100000; decide)) (Ev.int_eq (ev_lenT (ev_var rfl) (st_of ht0)) hlen) (by omega) (by omega)) (ea_cons (ev_var rfl) (ea_cons (ev_var rfl) ea_nil)) fun p G eG hp => spv_check (sqt_rep hp) (ex_t eG (st_of ht0)) gd (by omega) (by omega)) fun H1 e1 => ?_
      refine g_drop (ev_call (ea_cons (ev_var rfl) (ea_cons ev_c (ea_cons ev_c ea_nil))) (spv_num (by omega) (by omega))) fun H2 e2 => ?_
      refine g_asg2 ev_c fun H3 e3 => ?_
      refine g_asgL (xs := (List.replicate L (0 : Int)).map V.int) (el_isV (el_repR (el_lst (ea_cons ev_c ea_nil) (by show 1 ≤ 100000; decide)) (ev_var rfl) (by omega) (by omega)) (by simp)) fun p H4 np e4 hp => ?_
      have k4 := hk0.ex (((e1.trans e2).trans e3).trans e4)
      refine g_forR1 (n := (n : Int)) (ea_cons (ev_var rfl) ea_nil) ⟨by omega, by omega⟩ (fun i k σ' H' => k = i ∧ Knows (cnOf Z r dx td (RK.ref g) ds) H' ∧ ∃ (p : Addr) (x7 x8 x9 x10 : Option V), H' p = some (.lst ((rst (RK.ref g) ds L i).rc.map V.int)) ∧
        σ' = [some (.ref r), some (.ref td), some (.int (L : Int)), some (.int (n : Int)), some (.int (rst (RK.ref g) ds L i).st), some (.int (rst (RK.ref g) ds L i).so), some (.ref p), x7, x8, x9, x10]) (fun H5 e5 => ⟨rfl, k4.ex e5, p, _, _, _, _, e5 _ _ hp, rfl⟩) ?_ ?_
      · rintro i0 i σ' H' hi ⟨rfl, kn, p, x7, x8, x9, x10, hp, rfl⟩
        obtain ⟨hR, ht⟩ := knows_run kn hrd
        have hm := mod_nat i n0'
        refine g_asg (v := .int (dem ds i)) (ev_ixT (ev_var rfl) (st_of ht) (ev_op (ev_var rfl) (Ev.int_eq (ev_lenT (ev_var rfl) (st_of ht)) hlen) (rv_I (by show (0 : Int) < _; omega))) (by rw [atI_mapI hm.1 hm.2.1, hm.2.2]; rfl)) fun H1 e1 => ?_
        refine g_asg (v := .int (rbak (RK.ref g) i (rst (RK.ref g) ds L i))) (ev_meth (ev_var rfl) ⟨dx, _, (hR.mono e1).ins, rfl⟩ (ea_cons (ev_var rfl) (ea_cons (ev_var rfl) (ea_cons (ev_var rfl) ea_nil))) (spv_baked (hR.mono e1) trivial)) fun H2 e2 => ?_
        have hp2 := (e1.trans e2) _ _ hp
        refine g_asgL (xs := (rrec (RK.ref g) i (rst (RK.ref g) ds L i)).map V.int) (el_isV (el_catN (el_lst (ea_cons (ev_var rfl) ea_nil) (by show 1 ≤ 100000; decide)) (el_init (ev_var rfl) (sq_of hp2) (ev_un ev_c ru_neg)) (by rw [List.length_dropLast, List.length_map, rc_len hL0]; simp; omega)) (by simp [rrec, List.map_dropLast])) fun p2 H3 np2 e3 hp3 => ?_
        refine g_asg (v := .int (rsol (RK.ref g) ds i (rst (RK.ref g) ds L i))) (ev_min2 (ev_op (ev_var rfl) (ev_var rfl) rv_I0) (ev_var rfl)) fun H4 e4 => ?_
        refine g_asg (v := .int (rlef (RK.ref g) ds i (rst (RK.ref g) ds L i))) (ev_op (ev_op (ev_var rfl) (ev_var rfl) rv_I0) (ev_var rfl) rv_I0) fun H5 e5 => ?_
        have hp5 := (e4.trans e5) _ _ hp3
        refine g_asg (v := .int (rnew (RK.ref g) ds i (rst (RK.ref g) ds L i))) (ev_min2 (ev_var rfl) (ev_sumN (ns := (rrec (RK.ref g) i (rst (RK.ref g) ds L i)).dropLast) (el_isV (el_init (ev_var rfl) (sq_of hp5) (ev_un ev_c ru_neg)) (by rw [List.map_dropLast])))) fun H6 e6 => ?_
        have kn6 := kn.ex ((((e1.trans e2).trans e3).trans (e4.trans e5)).trans e6)
        refine g_yield (B := ⟨plOf P w K mg base n_run "run" (L2.defScope s_run) Z.f_run cdv Ar outer n0, cnOf Z r dx td (RK.ref g) ds, (rrows (RK.ref g) ds L n).map (·.map V.int), WK, CY, CE⟩) (row := (rrow (RK.ref g) ds L i).map V.int) (xs := (rrec (RK.ref g) i (rst (RK.ref g) ds L i)).map V.int) (l := p2) (by show i < ((rrows (RK.ref g) ds L n).map (·.map V.int)).length; rw [List.length_map, rrows_len]; omega)
          ?_ (rrows_get (by omega)) kn6 (e6 _ _ hp5) (new_out (kn.ex (e1.trans e2)) np2) fun G kG hG => ?_
        rotate_left
        · exact ⟨rfl, kG, p2, _, _, _, _, hG, rfl⟩
        exact eu_tup (ea_cons (ev_var rfl) (ea_cons (ev_var rfl) (ea_cons (ev_op (ev_var rfl) (ev_var rfl) rv_I0) (ea_cons (ev_op (ev_var rfl) (ev_var rfl) rv_I0) ea_nil)))) (by show 4 ≤ 100000; decide)
      · rintro k σ' H' ⟨hk, kn, _⟩
        exact ⟨by show k = ((rrows (RK.ref g) ds L n).map (·.map V.int)).length; rw [List.length_map, rrows_len]; omega, kn⟩
    · refine ⟨_, (GnX.gss2_cons (GnX.gs2_ps (fun _ _ => (ps_expr (pe_call (ok_check_bakery T) (hr.mono (by decide)) (by rfl) T.g_check_bakery T.F_check_bakery.kp T.b_check_bakery .nil pass0 (pa_cons (pe_op (op_rep1K K rfl) (pe_tup (pa_cons pe_int pa_nil)) (pe_callB (r := rLenS K) (call_len_seq) (by rfl) T.b_len boot_len (pa_cons (pv 1) pa_nil))) (pa_cons (pv 1) (pa_cons (pv 2) pa_nil)))))))
      (GnX.gss2_cons (GnX.gs2_ps (fun _ _ => (ps_expr (pe_call (ok_check_number T) (hr.mono (by decide)) (by rfl) T.g_check_number T.F_check_number.kp T.b_check_number .nil pass0 (pa_cons (pv 3) (pa_cons pe_int (pa_cons (pe_glob (v := .int 10000) (by rfl) T.g_MOST_RULE_DAYS ⟨_, rfl⟩) pa_nil)))))))
      (GnX.gss2_cons (GnX.gs2_ps (fun _ _ => (ps_asg2 pe_int (pg_name (i := 4) sc_run.nd rfl (Or.inl rfl)) (pg_name (i := 5) sc_run.nd rfl (Or.inl rfl)))))
      (GnX.gss2_cons (GnX.gs2_ps (fun _ _ => (ps_set (i := 6) sc_run.nd rfl (Or.inl rfl) (pe_op op_rep (pe_lst (pa_cons pe_int pa_nil)) (pv 2)))))
      (GnX.gss2_cons (GnX.gs2_for (fun _ _ => (pi_range1 (by rfl) T.b_range (pa_cons (pv 3) pa_nil))) (fun _ _ => (pg_name (i := 7) sc_run.nd rfl (Or.inl rfl))) (GnX.gss2_cons (GnX.gs2_ps (fun _ _ => (ps_set (i := 8) sc_run.nd rfl (Or.inl rfl) (pe_ix (r := rIxT K) ix_tup (pv 1) (pe_op op_mod (pv 7) (pe_callB (r := rLenS K) (call_len_seq) (by rfl) T.b_len boot_len (pa_cons (pv 1) pa_nil))) (fun _ _ => rfl)))))
      (GnX.gss2_cons (GnX.gs2_ps (fun _ _ => (ps_set (i := 9) sc_run.nd rfl (Or.inl rfl) (pe_meth (pv 0) T.cl_SoldRule T.m_SoldRule_count_baked (ok_SoldRule_count_baked T) (hr.mono (by decide)) T.b_SoldRule_count_baked .nil pass0 (pa_cons (pv 7) (pa_cons (pv 4) (pa_cons (pv 5) pa_nil)))))))
      (GnX.gss2_cons (GnX.gs2_ps (fun _ _ => (ps_set (i := 6) sc_run.nd rfl (Or.inl rfl) (pe_op op_cat (pe_lst (pa_cons (pv 9) pa_nil)) (pe_slice (r := rSlL K) sl_list (pv 6) po_none (po_some (pe_un un_neg pe_int)))))))
      (GnX.gss2_cons (GnX.gs2_ps (fun _ _ => (ps_set (i := 5) sc_run.nd rfl (Or.inl rfl) (pe_callB (r := rMn) (call_min2 rfl) (by rfl) T.b_min boot_min (pa_cons (pe_op op_add (pv 4) (pv 9)) (pa_cons (pv 8) pa_nil))))))
      (GnX.gss2_cons (GnX.gs2_ps (fun _ _ => (ps_set (i := 10) sc_run.nd rfl (Or.inl rfl) (pe_op op_sub (pe_op op_add (pv 4) (pv 9)) (pv 5)))))
      (GnX.gss2_cons (GnX.gs2_ps (fun _ _ => (ps_set (i := 4) sc_run.nd rfl (Or.inl rfl) (pe_callB (r := rMn) (call_min2 rfl) (by rfl) T.b_min boot_min (pa_cons (pv 10) (pa_cons (pe_callB (r := rSum K) (cr_sum rfl) (by rfl) T.b_sum boot_sum (pa_cons (pe_slice (r := rSlL K) sl_list (pv 6) po_none (po_some (pe_un un_neg pe_int))) pa_nil)) pa_nil))))))
      (GnX.gss2_cons (GnX.gs2_yield (fun _ _ => (pe_tup (pa_cons (pv 9) (pa_cons (pv 5) (pa_cons (pe_op op_sub (pv 8) (pv 5)) (pa_cons (pe_op op_sub (pv 10) (pv 4)) pa_nil)))))) rfl rfl)
      GnX.gss2_nil))))))) (by intro _; rfl))
      GnX.gss2_nil))))), ?_⟩
      intro H0 hk0
      obtain ⟨hR0, ht0⟩ := knows_run hk0 hrd
      refine g_drop (ev_callW (ew_rep1 (n := (ds.length : Int)) (eu_tup (ea_cons ev_c ea_nil) (by show 1 ≤ 100000; decide)) (Ev.int_eq (ev_lenT (ev_var rfl) (st_of ht0)) hlen) (by omega) (by omega)) (ea_cons (ev_var rfl) (ea_cons (ev_var rfl) ea_nil)) fun p G eG hp => spv_check (sqt_rep hp) (ex_t eG (st_of ht0)) gd (by omega) (by omega)) fun H1 e1 => ?_
      refine g_drop (ev_call (ea_cons (ev_var rfl) (ea_cons ev_c (ea_cons ev_c ea_nil))) (spv_num (by omega) (by omega))) fun H2 e2 => ?_
      refine g_asg2 ev_c fun H3 e3 => ?_
      refine g_asgL (xs := (List.replicate L (0 : Int)).map V.int) (el_isV (el_repR (el_lst (ea_cons ev_c ea_nil) (by show 1 ≤ 100000; decide)) (ev_var rfl) (by omega) (by omega)) (by simp)) fun p H4 np e4 hp => ?_
      have k4 := hk0.ex (((e1.trans e2).trans e3).trans e4)
      refine g_forR1 (n := (n : Int)) (ea_cons (ev_var rfl) ea_nil) ⟨by omega, by omega⟩ (fun i k σ' H' => k = i ∧ Knows (cnOf Z r dx td (RK.sol a m) ds) H' ∧ ∃ (p : Addr) (x7 x8 x9 x10 : Option V), H' p = some (.lst ((rst (RK.sol a m) ds L i).rc.map V.int)) ∧
        σ' = [some (.ref r), some (.ref td), some (.int (L : Int)), some (.int (n : Int)), some (.int (rst (RK.sol a m) ds L i).st), some (.int (rst (RK.sol a m) ds L i).so), some (.ref p), x7, x8, x9, x10]) (fun H5 e5 => ⟨rfl, k4.ex e5, p, _, _, _, _, e5 _ _ hp, rfl⟩) ?_ ?_
      · rintro i0 i σ' H' hi ⟨rfl, kn, p, x7, x8, x9, x10, hp, rfl⟩
        obtain ⟨hR, ht⟩ := knows_run kn hrd
        have hm := mod_nat i n0'
        refine g_asg (v := .int (dem ds i)) (ev_ixT (ev_var rfl) (st_of ht) (ev_op (ev_var rfl) (Ev.int_eq (ev_lenT (ev_var rfl) (st_of ht)) hlen) (rv_I (by show (0 : Int) < _; omega))) (by rw [atI_mapI hm.1 hm.2.1, hm.2.2]; rfl)) fun H1 e1 => ?_
        refine g_asg (v := .int (rbak (RK.sol a m) i (rst (RK.sol a m) ds L i))) (ev_meth (ev_var rfl) ⟨dx, _, (hR.mono e1).ins, rfl⟩ (ea_cons (ev_var rfl) (ea_cons (ev_var rfl) (ea_cons (ev_var rfl) ea_nil))) (spv_baked (hR.mono e1) trivial)) fun H2 e2 => ?_
        have hp2 := (e1.trans e2) _ _ hp
        refine g_asgL (xs := (rrec (RK.sol a m) i (rst (RK.sol a m) ds L i)).map V.int) (el_isV (el_catN (el_lst (ea_cons (ev_var rfl) ea_nil) (by show 1 ≤ 100000; decide)) (el_init (ev_var rfl) (sq_of hp2) (ev_un ev_c ru_neg)) (by rw [List.length_dropLast, List.length_map, rc_len hL0]; simp; omega)) (by simp [rrec, List.map_dropLast])) fun p2 H3 np2 e3 hp3 => ?_
        refine g_asg (v := .int (rsol (RK.sol a m) ds i (rst (RK.sol a m) ds L i))) (ev_min2 (ev_op (ev_var rfl) (ev_var rfl) rv_I0) (ev_var rfl)) fun H4 e4 => ?_
        refine g_asg (v := .int (rlef (RK.sol a m) ds i (rst (RK.sol a m) ds L i))) (ev_op (ev_op (ev_var rfl) (ev_var rfl) rv_I0) (ev_var rfl) rv_I0) fun H5 e5 => ?_
        have hp5 := (e4.trans e5) _ _ hp3
        refine g_asg (v := .int (rnew (RK.sol a m) ds i (rst (RK.sol a m) ds L i))) (ev_min2 (ev_var rfl) (ev_sumN (ns := (rrec (RK.sol a m) i (rst (RK.sol a m) ds L i)).dropLast) (el_isV (el_init (ev_var rfl) (sq_of hp5) (ev_un ev_c ru_neg)) (by rw [List.map_dropLast])))) fun H6 e6 => ?_
        have kn6 := kn.ex ((((e1.trans e2).trans e3).trans (e4.trans e5)).trans e6)
        refine g_yield (B := ⟨plOf P w K mg base n_run "run" (L2.defScope s_run) Z.f_run cdv Ar outer n0, cnOf Z r dx td (RK.sol a m) ds, (rrows (RK.sol a m) ds L n).map (·.map V.int), WK, CY, CE⟩) (row := (rrow (RK.sol a m) ds L i).map V.int) (xs := (rrec (RK.sol a m) i (rst (RK.sol a m) ds L i)).map V.int) (l := p2) (by show i < ((rrows (RK.sol a m) ds L n).map (·.map V.int)).length; rw [List.length_map, rrows_len]; omega)
          ?_ (rrows_get (by omega)) kn6 (e6 _ _ hp5) (new_out (kn.ex (e1.trans e2)) np2) fun G kG hG => ?_
        rotate_left
        · exact ⟨rfl, kG, p2, _, _, _, _, hG, rfl⟩
        exact eu_tup (ea_cons (ev_var rfl) (ea_cons (ev_var rfl) (ea_cons (ev_op (ev_var rfl) (ev_var rfl) rv_I0) (ea_cons (ev_op (ev_var rfl) (ev_var rfl) rv_I0) ea_nil)))) (by show 4 ≤ 100000; decide)
      · rintro k σ' H' ⟨hk, kn, _⟩
        exact ⟨by show k = ((rrows (RK.sol a m) ds L n).map (·.map V.int)).length; rw [List.length_map, rrows_len]; omega, kn⟩
end Sw
namespace Sw
open PySem PySem.Spec PyProof.Rows L2 Evl GnX
local macro_rules | `(tactic| walk_at "ev") => `(tactic| first
  | exact ev_c
  | exact ev_var rfl
  | ((with_reducible show Ev (tCB rMax2 _) _ _ _); exact ev_maxi (by walk_at "ev") (by walk_at "ev"))
  | ((with_reducible show Ev (tCB rMn _) _ _ _); exact ev_min2 (by walk_at "ev") (by walk_at "ev"))
  | ((with_reducible show Ev (tUn _ _) _ _ _); exact ev_un (by walk_at "ev") ru_neg)
  | ((with_reducible show Ev (tFld _ _ _) _ _ _); exact ev_fldK (by walk_at "ev") (by assumption))
  | ((with_reducible show Ev (tOp (rI0 _) _ _) _ _ _); exact ev_op (by walk_at "ev") (by walk_at "ev") rv_I0)
  | ((with_reducible show Ev (tOp rEq _ _) _ _ _); exact ev_op (by walk_at "ev") (by walk_at "ev") (rv_eq rfl))
  | ((with_reducible show Ev (tOp rNe _ _) _ _ _); exact ev_op (by walk_at "ev") (by walk_at "ev") (rv_ne rfl)))

/-! ### outcome -/
section
variable {K : PySem.W.Frag} {D : Ends} {σ : L2.St} {H : Hp} {te : TE} {t ta : TA} {tb tz : TS} {g : L2.TG} {x y : V} {xs ys vs : List V} {a b : Addr} {cn : Kn} {rows : List (List V)} {sp : SpGn}
theorem wipe_pair {j1 j2 : Nat} (hne : j1 ≠ j2) (x y : V) : wipe (((wipe σ [j1, j2]).set j1 (some x)).set j2 (some y)) [j1, j2] = wipe σ [j1, j2] := by
  simp only [wipe]
  rw [List.set_set, List.set_set, List.set_comm _ _ hne, List.set_set, List.set_set]
theorem walk_zM (lx : xs.length = ys.length) : Walk (ItzM K a b) xs.length (fun H => SqL K H a xs ∧ SqT K H b ys) (YPair (fun i => xs[i]?) (fun i => ys[i]?)) := by
  refine ⟨fun i _ hi q => ⟨xs, ys, xs[i]'(by omega), ys[i]'(by omega), q.1, q.2, by simp, by simp⟩, fun _ q => ⟨xs, ys, q.1, q.2, by omega, by omega⟩, fun i H v H' _ q h => ?_⟩
  obtain ⟨T, x, y, h1, h2, h3, h4, h5⟩ := h
  exact ⟨T, x, y, h1, h2, h3, h4 xs q.1, h5 ys q.2⟩
theorem eu_tupLV (h : Ev te σ H (.ref a)) (hx : H a = some (.lst xs)) : EvU (tCB (rTupS K) (tCons te tNil)) σ H xs := fun H1 e Q q =>
  h H1 e _ fun H2 e2 => ⟨a, xs, rfl, .inl ⟨sq_of (e2 _ _ (e _ _ hx)), fun l hl => q l _ (fresh_back e2 hl) (e2.trans (Ex.new hl)) upd_same⟩⟩
/-- [e for x, y in zip(list, tuple)] -/
theorem el_lcZt {j1 j2 : Nat} (hne : j1 ≠ j2) (h : EvA t σ H [.ref a, .ref b]) (hx : SqL K H a xs) (hy : SqT K H b ys) (hl : xs.length = ys.length) (hz : xs.length ≤ 40000) (v : Nat → V)
    (he : ∀ (i : Nat) x y H1, Ex H H1 → xs[i]? = some x → ys[i]? = some y → Ev te (((wipe σ [j1, j2]).set j1 (some x)).set j2 (some y)) H1 (v i)) :
    EvL (tLc (iZipM K t) (gTup K 2 (gCons (gName j1) (gCons (gName j2) gNil))) tYes te [j1, j2]) σ H ((List.range xs.length).map v) := fun H0 e0 Q q =>
  h H0 e0 _ fun H1 e1 => ⟨a, b, xs, ys, rfl, ex_l (e0.trans e1) hx, ex_t (e0.trans e1) hy, fun Dl hD => by
    have e01 := e0.trans e1
    rw [← given_all] at q
    refine lc_it (walk_zM (K := K) (a := a) (b := b) (xs := xs) (ys := ys) hl) (Cw H1 (fun _ => true) v Dl) ⟨hD, Ex.new hD, upd_same⟩ (fun i H' _ p => ⟨ex_l (e01.trans p.2.1) hx, ex_t (e01.trans p.2.1) hy⟩) (fun i w H' H2 hi p y => ?_) (fun H' p => q Dl H' (fresh_back e1 p.1) (e1.trans p.2.1) p.2.2)
    obtain ⟨T, x, y, rfl, hT, rfl, q1, q2⟩ := y
    have p' : Cw H1 (fun _ => true) v Dl i (upd H' T (.tup [x, y])) := ⟨p.1, p.2.1.trans (Ex.new hT), (Ex.new hT) _ _ p.2.2⟩
    refine ⟨T, [x, y], rfl, st_of upd_same, rfl, _, _, rfl, _, _, rfl, rfl, wipe_pair hne _ _, ?_⟩
    exact cw_turn p' (by omega) et_yes (fun _ => he i x y H1 e01 q1 q2)⟩
theorem q_forGn (h : EvA ta σ H vs) (hs : ∀ H1, Ex H H1 → sp vs H1 cn rows) (W : Nat → L2.St → Hp → Prop) (h0 : ∀ H1, Ex H H1 → W 0 σ H1) (hk : ∀ j σ H, W j σ H → Knows cn H)
    (st : ∀ j row σ H, rows[j]? = some row → W j σ H → ∀ p, H p = none → g (.ref p) σ (upd H p (.tup row)) fun σ2 H2 => tb { D with nx := W (j + 1), ct := W (j + 1), bk := tz D } σ2 H2) (fin : ∀ σ H, W rows.length σ H → tz D σ H) : tSeq (tForGn (tCallGn sp [] ta) g tb) tz D σ H :=
  h H (Ex.refl _) _ fun H1 e => ⟨cn, rows, by rw [List.append_nil]; exact hs H1 e, W, h0 H1 e, hk, st, fin⟩
/-- [x for x in run(..)]: the rows, each a new tuple -/
theorem el_lcGn {j : Nat} {v0 : Nat} (h : EvA ta σ H vs) (hs : ∀ H1, Ex H H1 → sp vs H1 cn rows) (kn : Knows cn H) (hw : ∀ x, wipe ((wipe σ [j]).set j (some x)) [j] = wipe σ [j]) (hj : j < σ.length) (hz : rows.length ≤ 40000) {Q : VK}
    (q : ∀ (D : Addr) (ps : List Addr) H2, H D = none → Ex H H2 → H2 D = some (.lst (ps.map V.ref)) → ps.length = rows.length → (∀ (i : Nat) p row, ps[i]? = some p → rows[i]? = some row → H2 p = some (.tup row)) → Q (.ref D) H2) :
    tLcGn (tCallGn sp [] ta) (gName j) (tVar j) [j] σ H Q :=
  h H (Ex.refl _) _ fun H1 e => ⟨cn, rows, by rw [List.append_nil]; exact hs H1 e, fun D hD => by
    have nD : H D = none := fresh_back e hD
    refine ⟨fun i H' => Ex H1 H' ∧ ∃ ps : List Addr, H' D = some (.lst (ps.map V.ref)) ∧ ps.length = i ∧ ∀ (k : Nat) p row, ps[k]? = some p → rows[k]? = some row → H' p = some (.tup row) ∧ p ≠ D, ⟨Ex.new hD, [], upd_same, rfl, fun k p row hp => by simp at hp⟩, fun i H' z => kn.ex (e.trans z.1), fun i row H' hrow ⟨eH, ps, hL, hl, hp⟩ p np => ?_, fun H' ⟨eH, ps, hL, hl, hp⟩ => q D ps H' nD (e.trans eH) hL hl fun k p row a b => (hp k p row a b).1⟩
    refine ⟨hw _, ?_⟩
    have hjl : j < (wipe σ [j]).length := by rw [wipe_length]; exact hj
    refine ⟨.ref p, by rw [List.getElem?_set_self hjl], ps.map V.ref, (Ex.new np) _ _ hL, by rw [List.length_map, hl]; have := (List.getElem?_eq_some_iff.mp hrow).1; rw [sizeLine_eq]; omega, ?_, ps ++ [p], by rw [upd_same, List.map_append]; rfl, by rw [List.length_append, hl]; rfl, fun k p' row' a b => ?_⟩
    · intro b o hb
      have hb2 := (Ex.new (o := .tup row) np) b o (eH b o hb)
      rw [upd_ne (fun z => by rw [z, hD] at hb; cases hb)]
      exact hb2
    · have pD : p ≠ D := fun z => by rw [z, hL] at np; cases np
      by_cases hk : k < ps.length
      · rw [List.getElem?_append_left hk] at a
        obtain ⟨h1, h2⟩ := hp k p' row' a b
        refine ⟨?_, h2⟩
        rw [upd_ne h2]
        exact (Ex.new np) _ _ h1
      · have hk2 : k = ps.length := by
          have := (List.getElem?_eq_some_iff.mp a).1
          rw [List.length_append] at this
          simp at this
          omega
        rw [hk2, List.getElem?_append_right (Nat.le_refl _), Nat.sub_self] at a
        have e1 : p = p' := by simpa using a
        subst e1
        rw [hk2, hl, hrow] at b
        cases b
        refine ⟨?_, pD⟩
        rw [upd_ne pD, upd_same]⟩
end
def cols (rk : RK) (ds : List Int) (L n : Nat) : List Int := [rcol rk ds L n 0, rcol rk ds L n 1, rcol rk ds L n 2, rcol rk ds L n 3]
theorem cols_zero {rk : RK} {ds : List Int} {L : Nat} : cols rk ds L 0 = [0, 0, 0, 0] := rfl
theorem cols_succ {rk : RK} {ds : List Int} {L n i : Nat} (hi : i < 4) : (cols rk ds L (n + 1)).getD i 0 = (cols rk ds L n).getD i 0 + (rrow rk ds L n).getD i 0 := by
  match i, hi with
  | 0, _ => rfl
  | 1, _ => rfl
  | 2, _ => rfl
  | 3, _ => rfl
theorem cols_len {rk : RK} {ds : List Int} {L n : Nat} : (cols rk ds L n).length = 4 := rfl
theorem cols_range {rk : RK} {ds : List Int} {L n : Nat} : (List.range 4).map (fun i => V.int ((cols rk ds L n).getD i 0)) = (cols rk ds L n).map V.int := rfl
def sp_outcome (Z : Ad) : Sp := fun vs H Q _ => ∃ (r dx td : Addr) (rk : RK) (ds : List Int) (L n : Nat), vs = [.ref r, .ref td, .int (L : Int), .int (n : Int)] ∧ RuleR Z H r dx rk ∧ rk.ok ∧ H td = some (.tup (ds.map V.int)) ∧ 0 < ds.length ∧ ds.length ≤ 24 ∧ (∀ x ∈ ds, 0 ≤ x ∧ x ≤ 1000000000) ∧ 1 ≤ L ∧ L ≤ 30 ∧ n ≤ 10000 ∧
  RetU ((cols rk ds L n).map V.int) H Q
variable {P : Program} {w : World} {K : PySem.W.Frag} {mg : Str → Option Value} {base : Heap} {Z : Ad}
theorem ok_outcome (T : Txt K mg Z) : FnOk P w K mg base CX0 5 Z.f_outcome Z.d_outcome p_outcome (sp_outcome Z) := by
  refine T.F_outcome.ok sc_outcome (fun vs H Q E h => ?_) (fun cdv Ar outer s H vs Q E hr h => ?_)
  · obtain ⟨r, dx, td, rk, ds, L, n, rfl, _⟩ := h
    rfl
  · obtain ⟨r, dx, td, rk, ds, L, n, rfl, hR, hok, htd, n0', n1, hd, hL0, hL1, hn, k⟩ := h
    refine ⟨_, (pss_cons (ps_set (i := 4) sc_outcome.nd rfl (Or.inl rfl) (pe_op op_rep (pe_lst (pa_cons pe_int pa_nil)) pe_int))
      (pss_cons (GnX.ps_forGn PassesOwn.never (fun _ _ _ z _ => z) rfl (hr.mono (by decide)) (GnX.pgn_call (ok_run T) (hr.mono (by decide)) (by rfl) T.g_run T.F_run.kp T.b_run .nil (pa_cons (pv 0) (pa_cons (pv 1) (pa_cons (pv 2) (pa_cons (pv 3) pa_nil))))) (pg_name (i := 5) sc_outcome.nd rfl (Or.inl rfl)) (pss_one (ps_setLc (i := 4) (own := [("total", 6), ("number", 7)]) rfl sc_outcome.nd rfl rfl (sw_true rfl rfl rfl (by decide +kernel)) (pi_zipM K rfl (by rfl) T.b_zip (pa_cons (pv 4) (pa_cons (pv 5) pa_nil))) (blkOk_by (own := [("total", 6), ("number", 7)]) (N := n_outcome) (sc := defScope s_outcome) (scope := { kind := PySem.ScopeKind.function, names := [ (PySem.Str.ofString ".0", PySem.NameKind.local), (PySem.Str.ofString "total", PySem.NameKind.local), (PySem.Str.ofString "number", PySem.NameKind.local)], isGenerator := false, isCoroutine := false, more := [] : PySem.Scope }) (by decide +kernel)) (fun _ _ _ _ _ => (by exact (pg_tupK K (n := 2) rfl rfl (pgs_cons (pg_name (i := 6) sc_outcome.nd rfl (Or.inl rfl)) (pgs_cons (pg_name (i := 7) sc_outcome.nd rfl (Or.inl rfl)) pgs_nil))))) (fun _ _ _ _ _ => pts_nil) (fun _ _ _ _ _ => (pe_op op_add (pv 6) (pv 7))))))
      (pss_one (ps_ret (pe_callTy (r := rTupS K) (call_tuple_of) (by rfl) T.b_tuple boot_tuple (pa_cons (pv 4) pa_nil)))))), ?_⟩
    refine q_asgL (xs := (cols rk ds L 0).map V.int) (el_isV (el_repR (el_lst (ea_cons ev_c ea_nil) (by show 1 ≤ 100000; decide)) ev_c (by decide) (by decide)) rfl) fun p H1 np e1 hp => ?_
    refine q_forGn (cn := cnOf Z r dx td rk ds) (rows := (rrows rk ds L n).map (·.map V.int)) (ea_cons (ev_var rfl) (ea_cons (ev_var rfl) (ea_cons (ev_var rfl) (ea_cons (ev_var rfl) ea_nil)))) (fun H2 e2 => ⟨r, dx, td, rk, ds, L, n, rfl, hR.mono (e1.trans e2), hok, (e1.trans e2) _ _ htd, n0', n1, hd, hL0, hL1, hn, rfl, rfl⟩)
      (fun j σ' H' => Ex H H' ∧ ∃ (p : Addr) (x5 x6 x7 : Option V), σ' = [some (.ref r), some (.ref td), some (.int (L : Int)), some (.int (n : Int)), some (.ref p), x5, x6, x7] ∧ H p = none ∧ H' p = some (.lst ((cols rk ds L j).map V.int))) (fun H2 e2 => ⟨e1.trans e2, p, _, _, _, rfl, np, e2 _ _ hp⟩) (fun j σ' H' z => (knows_cn hR htd).ex z.1) ?_ ?_
    · rintro j row σ' H' hrow ⟨eH, p, x5, x6, x7, rfl, np, hp⟩ q nq
      have hj : j < n := by
        have z := (List.getElem?_eq_some_iff.mp hrow).1
        rw [List.length_map, rrows_len] at z; exact z
      rw [rrows_get hj] at hrow
      obtain rfl := Option.some.inj hrow
      have eq := Ex.new (o := .tup ((rrow rk ds L j).map V.int)) nq
      refine s_asgL (xs := (cols rk ds L (j + 1)).map V.int) (el_isV (el_lcZt (K := K) (a := p) (b := q) (xs := (cols rk ds L j).map V.int) (ys := (rrow rk ds L j).map V.int) (by decide) (ea_cons (ev_var rfl) (ea_cons (ev_var rfl) ea_nil)) (sq_of (eq _ _ hp)) (st_of upd_same) (by simp [cols_len]; rfl) (by rw [List.length_map, cols_len]; decide) (fun i => V.int ((cols rk ds L (j + 1)).getD i 0)) (fun i x y H2 e2 hx hy => ?_)) ?_) fun p2 H3 np2 e3 hp3 => ?_
      · obtain ⟨rfl, h1⟩ := at_map hx
        obtain ⟨rfl, h2⟩ := at_map hy
        rw [cols_len] at h1
        exact Ev.int_eq (ev_op (ev_var rfl) (ev_var rfl) rv_I0) (cols_succ h1).symm
      · rw [List.length_map, cols_len]; exact cols_range
      · exact ⟨(eH.trans eq).trans e3, p2, _, _, _, rfl, fresh_back (eH.trans eq) np2, hp3⟩
    · rintro σ' H' ⟨eH, p, x5, x6, x7, rfl, np, hp⟩
      rw [List.length_map, rrows_len] at hp
      exact s_retU (eu_tupLV (ev_var rfl) hp) fun q H2 nq e2 hq => k q H2 (fresh_back eH nq) (eH.trans e2) hq
end Sw
namespace Sw
open PySem PySem.Spec PyProof.Rows L2 Evl GnX
local macro_rules | `(tactic| walk_at "ev") => `(tactic| first
  | exact ev_c
  | exact ev_var rfl
  | ((with_reducible show Ev (tCB rMax2 _) _ _ _); exact ev_maxi (by walk_at "ev") (by walk_at "ev"))
  | ((with_reducible show Ev (tCB rMn _) _ _ _); exact ev_min2 (by walk_at "ev") (by walk_at "ev"))
  | ((with_reducible show Ev (tUn _ _) _ _ _); exact ev_un (by walk_at "ev") ru_neg)
  | ((with_reducible show Ev (tFld _ _ _) _ _ _); exact ev_fldK (by walk_at "ev") (by assumption))
  | ((with_reducible show Ev (tOp (rI0 _) _ _) _ _ _); exact ev_op (by walk_at "ev") (by walk_at "ev") rv_I0)
  | ((with_reducible show Ev (tOp rEq _ _) _ _ _); exact ev_op (by walk_at "ev") (by walk_at "ev") (rv_eq rfl))
  | ((with_reducible show Ev (tOp rNe _ _) _ _ _); exact ev_op (by walk_at "ev") (by walk_at "ev") (rv_ne rfl)))

/-! ### rules are made -/
variable {P : Program} {w : World} {K : PySem.W.Frag} {mg : Str → Option Value} {base : Heap} {Z : Ad}
theorem ok_SoldRule___init__ (T : Txt K mg Z) (hP : P = Z.P) : FnOk P w K mg base CX0 3 Z.f_SoldRule___init__ Z.d_SoldRule___init__ p_SoldRule___init__ (sp_Rinit Z isSol mkSol) := by
  subst hP
  refine sup_own (k := 2) (CX := CX0) T.su_SoldRule___init__ (fnR_of (ok_Rule___init__ T) T.b_Rule___init__) rfl sc_SoldRule___init__ rfl rfl rfl rfl T.b_super (fun _ => rfl) (fun _ _ => rfl) (fun _ => rfl) (fun vs H Q E h => ?_) (fun A outer s H vs Q E hr h => ?_)
  · obtain ⟨x, dx, ws, rk, rfl, ⟨a, m, rfl, _⟩, _⟩ := h
    rfl
  · obtain ⟨x, dx, ws, rk, rfl, ⟨a, m, rfl, rfl⟩, _, ⟨a0, a1, m0, m1⟩, hx, k⟩ := h
    refine ⟨_, _, x, dx, [], _, pa_cons (pv 1) pa_nil, (pss_cons (ps_expr (pe_call (ok_check_part T) (hr.mono (by decide)) (by rfl) T.g_check_part T.F_check_part.kp T.b_check_part .nil pass0 (pa_cons pe_str (pa_cons (pv 2) (pa_cons (pe_un un_neg (pe_glob (v := .int 1000000000) (by rfl) T.g_MOST_LOAVES ⟨_, rfl⟩)) pa_nil)))))
      (pss_one (ps_fld (pv 0) (pv 2) rfl))), rfl, hx, ?_⟩
    refine ⟨.int a, rfl, x, dx, Z.c_SoldRule, a, rfl, .inr rfl, a0, a1, hx, fun H1 h1 al1 => ?_⟩
    refine q_drop (ev_call (ea_cons ev_c (ea_cons (ev_var rfl) (ea_cons (ev_un ev_c ru_neg) ea_nil))) (spv_part (by omega) m1)) fun H2 e2 => ?_
    exact s_fld (ev_var rfl) (fun _ _ => ev_var rfl) (e2 _ _ h1) T.cl_SoldRule T.na_SoldRule__more (by show 1 < 1000; decide) fun H3 e3 => k _ upd_same fun b o hb hne => by rw [upd_ne hne]; exact e3 b o (e2 b o (al1 b o hb hne))
/-- a new rule -/
def EvRu (Z : Ad) (te : TE) (σ : L2.St) (H : Hp) (rk : RK) : Prop := ∀ H1, Ex H H1 → ∀ Q : VK, (∀ r dx H2, H1 r = none → Ex H1 H2 → RuleR Z H2 r dx rk → Q (.ref r) H2) → te σ H1 Q
section
variable {σ : L2.St} {H : Hp} {t tk : TA} {E : XK} {a g m : Int}
theorem made_ex {H1 H3 : Hp} {x dx C : Addr} (hx : H1 x = none) (hd : H1 dx = none) (al : ∀ b o, (upd (upd H1 dx (.own x)) x (.ins C dx [])) b = some o → b ≠ x → H3 b = some o) : Ex H1 H3 := fun b o hb => by
  have n1 : b ≠ x := fun z => by rw [z, hx] at hb; cases hb
  have n2 : b ≠ dx := fun z => by rw [z, hd] at hb; cases hb
  exact al b o (by rw [upd_ne n1, upd_ne n2]; exact hb) n1
theorem made_own {H1 H3 : Hp} {x dx C : Addr} (hne : dx ≠ x) (al : ∀ b o, (upd (upd H1 dx (.own x)) x (.ins C dx [])) b = some o → b ≠ x → H3 b = some o) : H3 dx = some (.own x) := al dx _ (by rw [upd_ne hne, upd_same]) hne
theorem er_fix (h : EvA t σ H [.int a]) (a0 : 0 ≤ a) (a1 : a ≤ 1000000000) : EvRu Z (tMake Z.c_Rule (sp_Rule Z) [] E t) σ H (.fix a) := fun H1 e Q q => h H1 e _ fun H2 e2 x dx hx hd hne =>
  ⟨x, dx, Z.c_Rule, a, rfl, .inl rfl, a0, a1, upd_same, fun H3 h3 al => ⟨rfl, q x dx H3 (fresh_back e2 hx) (e2.trans (made_ex hx hd al)) ⟨h3, made_own hne al⟩⟩⟩
theorem er_ref (h : EvA t σ H [.int g]) (a0 : 0 ≤ g) (a1 : g ≤ 1000000000) : EvRu Z (tMake Z.c_RefillRule (sp_Rinit Z isRef mkRef) [] E t) σ H (.ref g) := fun H1 e Q q => h H1 e _ fun H2 e2 x dx hx hd hne =>
  ⟨x, dx, [.int g], .ref g, rfl, ⟨g, rfl, rfl⟩, trivial, ⟨a0, a1⟩, upd_same, fun H3 h3 al => ⟨rfl, q x dx H3 (fresh_back e2 hx) (e2.trans (made_ex hx hd al)) ⟨h3, made_own hne al⟩⟩⟩
theorem er_sol (h : EvA t σ H [.int a]) (hk : EvA tk σ H [.int m]) (a0 : 0 ≤ a) (a1 : a ≤ 1000000000) (m0 : -1000000000 ≤ m) (m1 : m ≤ 1000000000) : EvRu Z (tMakeK Z.c_SoldRule 1 1 (sp_Rinit Z isSol mkSol) (fun vs zs => vs ++ zs) E t tk) σ H (.sol a m) := fun H1 e Q q => h H1 e _ fun H2 e2 => hk H2 (e.trans e2) _ fun H3 e3 => ⟨rfl, rfl, fun x dx hx hd hne =>
  ⟨x, dx, [.int a, .int m], .sol a m, rfl, ⟨a, m, rfl, rfl⟩, trivial, ⟨a0, a1, m0, m1⟩, upd_same, fun H4 h4 al => ⟨rfl, q x dx H4 (fresh_back (e2.trans e3) hx) ((e2.trans e3).trans (made_ex hx hd al)) ⟨h4, made_own hne al⟩⟩⟩⟩
end
end Sw
namespace Sw
open PySem PySem.Spec PyProof.Rows L2 Evl GnX
local macro_rules | `(tactic| walk_at "ev") => `(tactic| first
  | exact ev_c
  | exact ev_var rfl
  | ((with_reducible show Ev (tCB rMax2 _) _ _ _); exact ev_maxi (by walk_at "ev") (by walk_at "ev"))
  | ((with_reducible show Ev (tCB rMn _) _ _ _); exact ev_min2 (by walk_at "ev") (by walk_at "ev"))
  | ((with_reducible show Ev (tUn _ _) _ _ _); exact ev_un (by walk_at "ev") ru_neg)
  | ((with_reducible show Ev (tFld _ _ _) _ _ _); exact ev_fldK (by walk_at "ev") (by assumption))
  | ((with_reducible show Ev (tOp (rI0 _) _ _) _ _ _); exact ev_op (by walk_at "ev") (by walk_at "ev") rv_I0)
  | ((with_reducible show Ev (tOp rEq _ _) _ _ _); exact ev_op (by walk_at "ev") (by walk_at "ev") (rv_eq rfl))
  | ((with_reducible show Ev (tOp rNe _ _) _ _ _); exact ev_op (by walk_at "ev") (by walk_at "ev") (rv_ne rfl)))

section
variable {K : PySem.W.Frag} {Z : Ad} {σ : L2.St} {H H' : Hp} {ta tb tc te t1 t2 t3 : TE} {v : V} {h l p pd : Addr} {ns as bs ds : List Int} {life : Int} {A B C : Int → Prop} {D : Ends} {tz tu : TS} {xs : List V}
theorem xi_dr {cells : List Int} {n : Int} {E : XK} (hc : SqL K (wn H (hl h l)) l (cells.map V.int)) (ha : ∀ G, Ev ta σ G (.ref h)) (hb : EvI tb σ H h l (fun i => i = n)) (p0 : 0 < n) (p1 : n ≤ 1000000000000000000) : EvI (tCall (sp_drawn K) [] E (tCons ta (tCons tb tNil))) σ H h l (fun v => 0 ≤ v ∧ v < n) :=
  (xi_drawn hc ha hb (fun i e => by subst e; exact ⟨p0, p1⟩)).imp fun v q => ⟨q.1, by obtain ⟨j, ej, zj⟩ := q.2; omega⟩
theorem xi_drA {cells : List Int} {n : Int} {E : XK} (hc : SqL K (wn H (hl h l)) l (cells.map V.int)) (ha : ∀ G, Ev ta σ G (.ref h)) (hb : EvI tb σ H h l A) (hA : ∀ i, A i → 0 < i ∧ i ≤ n) (p1 : n ≤ 1000000000000000000) : EvI (tCall (sp_drawn K) [] E (tCons ta (tCons tb tNil))) σ H h l (fun v => 0 ≤ v ∧ v < n) :=
  (xi_drawn hc ha hb (fun i e => by have := hA i e; omega)).imp fun v q => ⟨q.1, by obtain ⟨j, ej, zj⟩ := q.2; have := hA j ej; omega⟩
theorem dp_ints : ∀ ns : List Int, DpAll K H (ns.map V.int) (ns.map PyData.int)
  | [] => .nil
  | n :: r => .cons (.int n) (dp_ints r)
theorem tup_shaped (ns : List Int) : SeqAt.shaped (.tuple (ns.map PyData.int)) = true := by
  show (PyData.canLay0 (.tuple (ns.map PyData.int)) && decide (PyData.depth (.tuple (ns.map PyData.int)) ≤ 64)) = true
  rw [Bool.and_eq_true]
  exact ⟨by simp only [PyData.canLay0, canLayAll_ints], decide_eq_true (by simp only [PyData.depth, depthAll_ints]; decide)⟩
end
theorem eqvA_dec : ∀ as bs : List Int, PyData.eqvAll (as.map PyData.int) (bs.map PyData.int) = decide (as = bs)
  | [], [] => rfl
  | [], b :: r => rfl
  | a :: r, [] => rfl
  | a :: r, b :: s => by
    show (PyData.eqv (.int a) (.int b) && PyData.eqvAll (r.map PyData.int) (s.map PyData.int)) = _
    rw [eqvA_dec r s]
    by_cases h : a = b <;> by_cases h2 : r = s <;> simp [PyData.eqv, h, h2]
section
variable {K : PySem.W.Frag} {Z : Ad} {σ : L2.St} {H H' : Hp} {ta tb tc te t1 t2 t3 : TE} {t tk : TA} {v : V} {h l p pd : Addr} {ns as bs ds : List Int} {life : Int} {A B C : Int → Prop} {D : Ends} {tz tu : TS} {xs : List V} {E : XK} {rk : RK} {L n : Nat}
theorem ev_neUW (h1 : EvU ta σ H (as.map V.int)) (h2 : EvW K tb σ H (bs.map V.int)) : Ev (tOp (rNeD K) ta tb) σ H (.bl (!decide (as = bs))) := fun H1 e Q k => h1 H1 e _ fun p H2 _ e2 x1 => h2 H2 (e.trans e2) _ fun q H3 e3 x2 =>
  ⟨_, _, .tup (st_of (e3 _ _ x1)) (dp_ints as), .tup x2 (dp_ints bs), tup_shaped as, tup_shaped bs, by
    have z : PyData.eqv (.tuple (as.map PyData.int)) (.tuple (bs.map PyData.int)) = decide (as = bs) := eqvA_dec as bs
    rw [z]; exact k H3 (e2.trans e3)⟩
theorem ev_neRU (h1 : Ev ta σ H (.ref p)) (x1 : SqT K H p (as.map V.int)) (h2 : EvU tb σ H (bs.map V.int)) : Ev (tOp (rNeD K) ta tb) σ H (.bl (!decide (as = bs))) := fun H1 e Q k => h1 H1 e _ fun H2 e2 => h2 H2 (e.trans e2) _ fun q H3 _ e3 x2 =>
  ⟨_, _, .tup (ex_t ((e.trans e2).trans e3) x1) (dp_ints as), .tup (st_of x2) (dp_ints bs), tup_shaped as, tup_shaped bs, by
    have z : PyData.eqv (.tuple (as.map PyData.int)) (.tuple (bs.map PyData.int)) = decide (as = bs) := eqvA_dec as bs
    rw [z]; exact k H3 (e2.trans e3)⟩
theorem x_tripI {i j k : Nat} (hs : HS H h l) (ha : EvI ta σ H h l A) (hb : EvI tb σ H h l B) (hc : EvI tc σ H h l C) (q : ∀ x y z S, Dr h l H S → A x → B y → C z → tz D (((σ.set i (some (.int x))).set j (some (.int y))).set k (some (.int z))) S) :
    tSeq (tAsg (tTup (tCons ta (tCons tb (tCons tc tNil)))) (gTup K 3 (gCons (gName i) (gCons (gName j) (gCons (gName k) gNil))))) tz D σ H :=
  ha H (Dr.refl hs) _ fun v H1 d1 ⟨x, e, hx⟩ => hb H1 d1 _ fun w H2 d2 ⟨y, e', hy⟩ => hc H2 (d1.trans d2) _ fun w' H3 d3 ⟨z, e'', hz⟩ => ⟨by show 3 ≤ sizeLine; decide, fun r hr => by
    subst e e' e''
    exact ⟨r, [.int x, .int y, .int z], rfl, st_of upd_same, rfl, _, _, rfl, _, _, rfl, _, _, rfl, rfl, q x y z _ (((d1.trans d2).trans d3).trans (Dr.of d3.hs (Ex.new (o := .tup [.int x, .int y, .int z]) hr))) hx hy hz⟩⟩
theorem st_wn (hs : HS H h l) (hp : SqT K H p xs) : SqT K (wn H (hl h l)) p xs := by
  rcases hp with (z | ⟨u, z⟩) | z
  · exact .inl (.inl (by rw [wn_ni (hl_kind hs z (fun _ q => nomatch q))]; exact z))
  · exact .inl (.inr ⟨u, by rw [wn_ni (hl_kind hs z (fun _ q => nomatch q))]; exact z⟩)
  · exact .inr z
theorem ru_wn {r dx : Addr} (hs : HS H h l) (hp : RuleR Z H r dx rk) : RuleR Z (wn H (hl h l)) r dx rk :=
  ⟨by rw [wn_ni (hl_kind hs hp.ins (fun _ q => nomatch q))]; exact hp.ins, by rw [wn_ni (hl_kind hs hp.own (fun _ q => nomatch q))]; exact hp.own⟩
theorem ru_of {r dx : Addr} {N : Addr → Prop} (hp : RuleR Z (wn H N) r dx rk) : RuleR Z H r dx rk := hp.mono wn_ex
/-- a bakery of the given amounts, the first ones a new tuple -/
theorem q_bakW {i1 : Nat} (hs : HS H h l) (h1 : EvW K t1 σ H (bs.map V.int)) (h2 : ∀ G, Ev t2 σ G (.ref pd)) (h3 : ∀ G, Ev t3 σ G (.int life)) (hd : SqT K (wn H (hl h l)) pd (ds.map V.int)) (gd : Good bs ds) (l0 : 1 ≤ life) (l1 : life ≤ 30)
    (k : ∀ (b : Addr) (i : Nat) (S : Hp), Ex H S → BakAt K Z (wn S (hl h l)) b bs ds life i → tz D (σ.set i1 (some (.ref b))) S) : tSeq (tAsg (tMake Z.c_Bakery (sp_Binit K Z) [] E (tCons t1 (tCons t2 (tCons t3 tNil)))) (gName i1)) tz D σ H := by
  dsimp only [tSeq, tAsg, gName, tMake, tCons, tNil]
  refine h1 H (Ex.refl _) _ fun pb H1 e1 hb => h2 H1 H1 (Ex.refl _) _ fun H2 e2 => h3 H2 H2 (Ex.refl _) _ fun H3 e3 => ?_
  have e13 := (e1.trans e2).trans e3
  have hs3 := hs.mono e13
  have hb3 := st_wn hs3 (ex_t (e2.trans e3) hb)
  have hX := er_bakery (K := K) (Z := Z) (M := hl h l) (H := H3) (σ := [some (.ref pb), some (.ref pd), some (.int life)]) (E := E) (t := tCons (tVar 0) (tCons (tVar 1) (tCons (tVar 2) tNil))) (ea_cons (ev_var rfl) (ea_cons (ev_var rfl) (ea_cons (ev_var rfl) ea_nil))) hb3 (ex_t (wn_mono e13) hd) gd l0 l1
  have z := hX H3 (Ex.refl _) hs3.kn (fun v S => tz D (σ.set i1 (some v)) S) fun p S _ e4 ⟨i, hP⟩ => k p i S (e13.trans e4) hP
  dsimp only [tMake, tCons, tNil] at z
  obtain ⟨v1, r1, v2, r2, v3, r3, z⟩ := z
  cases r1; cases r2; cases r3
  exact z
/-! ### rules as arguments -/
def EvAr (Z : Ad) (t : TA) (σ : L2.St) (H : Hp) (rk : RK) (td : Addr) (L n : Nat) : Prop := ∀ H1, Ex H H1 → ∀ Q : List V → Hp → Prop, (∀ r dx H2, Ex H1 H2 → RuleR Z H2 r dx rk → Q [.ref r, .ref td, .int (L : Int), .int (n : Int)] H2) → t σ H1 Q
theorem EvAr.mono (e : Ex H H') (x : EvAr Z t σ H rk p L n) : EvAr Z t σ H' rk p L n := fun H1 e1 => x H1 (e.trans e1)
theorem ear_new {t4 : TE} (hr : EvRu Z t1 σ H rk) (h2 : ∀ G, Ev t2 σ G (.ref pd)) (h3 : ∀ G, Ev t3 σ G (.int (L : Int))) (h4 : ∀ G, Ev t4 σ G (.int (n : Int))) : EvAr Z (tCons t1 (tCons t2 (tCons t3 (tCons t4 tNil)))) σ H rk pd L n := fun H1 e Q q =>
  hr H1 e _ fun r dx H2 _ e2 hR => h2 H2 H2 (Ex.refl _) _ fun H3 e3 => h3 H3 H3 (Ex.refl _) _ fun H4 e4 => h4 H4 H4 (Ex.refl _) _ fun H5 e5 => q r dx H5 ((e2.trans e3).trans (e4.trans e5)) (hR.mono (e3.trans (e4.trans e5)))
theorem ear_var {r dx : Addr} {t4 : TE} (h1 : ∀ G, Ev t1 σ G (.ref r)) (hR : RuleR Z H r dx rk) (h2 : ∀ G, Ev t2 σ G (.ref pd)) (h3 : ∀ G, Ev t3 σ G (.int (L : Int))) (h4 : ∀ G, Ev t4 σ G (.int (n : Int))) : EvAr Z (tCons t1 (tCons t2 (tCons t3 (tCons t4 tNil)))) σ H rk pd L n := fun H1 e Q q =>
  h1 H1 H1 (Ex.refl _) _ fun H2 e2 => h2 H2 H2 (Ex.refl _) _ fun H3 e3 => h3 H3 H3 (Ex.refl _) _ fun H4 e4 => h4 H4 H4 (Ex.refl _) _ fun H5 e5 => q r dx H5 ((e2.trans e3).trans (e4.trans e5)) (hR.mono (((e.trans e2).trans e3).trans (e4.trans e5)))
/-- what is asked of the demands, the life, the days -/
structure DemOk (H : Hp) (pd : Addr) (ds : List Int) (L n : Nat) : Prop where
  td : H pd = some (.tup (ds.map V.int))
  n0 : 0 < ds.length
  n1 : ds.length ≤ 24
  d0 : ∀ x ∈ ds, 0 ≤ x ∧ x ≤ 1000000000
  l0 : 1 ≤ L
  l1 : L ≤ 30
  nn : n ≤ 10000
theorem DemOk.mono (e : Ex H H') (x : DemOk H pd ds L n) : DemOk H' pd ds L n := ⟨e _ _ x.td, x.n0, x.n1, x.d0, x.l0, x.l1, x.nn⟩
theorem run_sp (x : DemOk H pd ds L n) (ok : rk.ok) {r dx : Addr} {H1 : Hp} (e : Ex H H1) (hR : RuleR Z H1 r dx rk) : sp_run Z [.ref r, .ref pd, .int (L : Int), .int (n : Int)] H1 (cnOf Z r dx pd rk ds) ((rrows rk ds L n).map (·.map V.int)) :=
  ⟨r, dx, pd, rk, ds, L, n, rfl, hR, ok, e _ _ x.td, x.n0, x.n1, x.d0, x.l0, x.l1, x.nn, rfl, rfl⟩
theorem eu_out (ha : EvAr Z t σ H rk pd L n) (x : DemOk H pd ds L n) (ok : rk.ok) : EvU (tCall (sp_outcome Z) [] E t) σ H ((cols rk ds L n).map V.int) := fun H1 e Q q =>
  ha H1 e _ fun r dx H2 e2 hR => ⟨r, dx, pd, rk, ds, L, n, rfl, hR, ok, (e.trans e2) _ _ x.td, x.n0, x.n1, x.d0, x.l0, x.l1, x.nn, fun p H3 np e3 hp => q p H3 (fresh_back e2 np) (e2.trans e3) hp⟩
theorem q_forRun {g : L2.TG} (ha : EvAr Z t σ H rk pd L n) (x : DemOk H pd ds L n) (ok : rk.ok) (W : Nat → L2.St → Hp → Prop) (h0 : ∀ H1, Ex H H1 → W 0 σ H1)
    (st : ∀ j σ H' (M : Hp → Prop), (∀ G, Ex H' G → M G) → j < n → W j σ H' → ∀ p, H' p = none → g (.ref p) σ (upd H' p (.tup ((rrow rk ds L j).map V.int))) fun σ2 H2 => tu { D with nx := fun σ' G => W (j + 1) σ' G ∧ M G, ct := fun σ' G => W (j + 1) σ' G ∧ M G, bk := tz D } σ2 H2)
    (fin : ∀ σ H, W n σ H → tz D σ H) : tSeq (tForGn (tCallGn (sp_run Z) [] t) g tu) tz D σ H :=
  ha H (Ex.refl _) _ fun r dx H1 e hR => by
    have hS := run_sp x ok e hR
    refine ⟨cnOf Z r dx pd rk ds, (rrows rk ds L n).map (·.map V.int), by rw [List.append_nil]; exact hS, fun j σ' H' => W j σ' H' ∧ Knows (cnOf Z r dx pd rk ds) H', ⟨h0 H1 e, knows_cn hR (e _ _ x.td)⟩, fun _ _ _ z => z.2, fun j row σ' H' hrow z p np => ?_, fun σ' H' z => ?_⟩
    · have hj : j < n := by
        have q := (List.getElem?_eq_some_iff.mp hrow).1
        rw [List.length_map, rrows_len] at q; exact q
      rw [rrows_get hj] at hrow
      obtain rfl := Option.some.inj hrow
      exact st j σ' H' (Knows (cnOf Z r dx pd rk ds)) (fun G eG => z.2.ex eG) hj z.1 p np
    · have z := z
      rw [List.length_map, rrows_len] at z
      exact fin σ' H' z.1
/-- rows = [row for row in run(..)] -/
theorem q_rowsRun {i j : Nat} (ha : EvAr Z t σ H rk pd L n) (x : DemOk H pd ds L n) (ok : rk.ok) (hw : ∀ x, wipe ((wipe σ [j]).set j (some x)) [j] = wipe σ [j]) (hj : j < σ.length)
    (q : ∀ (Dl : Addr) (ps : List Addr) H2, Ex H H2 → H Dl = none → H2 Dl = some (.lst (ps.map V.ref)) → ps.length = n → (∀ (k : Nat) p, ps[k]? = some p → k < n → H2 p = some (.tup ((rrow rk ds L k).map V.int))) → tz D (σ.set i (some (.ref Dl))) H2) :
    tSeq (tAsg (tLcGn (tCallGn (sp_run Z) [] t) (gName j) (tVar j) [j]) (gName i)) tz D σ H :=
  ha H (Ex.refl _) _ fun r dx H1 e hR => by
    have hS := run_sp x ok e hR
    have z := el_lcGn (ta := fun σ G Q => Q [.ref r, .ref pd, .int (L : Int), .int (n : Int)] G) (σ := σ) (H := H1) (j := j) (v0 := 0) (sp := sp_run Z) (vs := [.ref r, .ref pd, .int (L : Int), .int (n : Int)]) (cn := cnOf Z r dx pd rk ds) (rows := (rrows rk ds L n).map (·.map V.int))
      (fun G eG Q q => q G (Ex.refl _)) (fun G eG => run_sp x ok (e.trans eG) (hR.mono eG)) (knows_cn hR (e _ _ x.td)) hw hj (by rw [List.length_map, rrows_len]; have := x.nn; omega) (Q := fun v G => tz D (σ.set i (some v)) G) fun Dl ps H2 nD e2 hD hl hp => q Dl ps H2 (e.trans e2) (fresh_back e nD) hD (by rw [hl, List.length_map, rrows_len]) fun k p hk hkn => hp k p _ hk (rrows_get hkn)
    exact z
theorem q_tup4 {i1 i2 i3 i4 : Nat} {a b c d : Int} (h : EvU te σ H [.int a, .int b, .int c, .int d]) (k : ∀ H1, Ex H H1 → tz D ((((σ.set i1 (some (.int a))).set i2 (some (.int b))).set i3 (some (.int c))).set i4 (some (.int d))) H1) :
    tSeq (tAsg te (gTup K 4 (gCons (gName i1) (gCons (gName i2) (gCons (gName i3) (gCons (gName i4) gNil)))))) tz D σ H :=
  h H (Ex.refl _) _ fun p H1 np e hp => ⟨p, _, rfl, st_of hp, rfl, _, _, rfl, _, _, rfl, _, _, rfl, _, _, rfl, rfl, k H1 e⟩
theorem q_asgW {i : Nat} (h : EvW K te σ H xs) (k : ∀ p H1, Ex H H1 → SqT K H1 p xs → tz D (σ.set i (some (.ref p))) H1) : tSeq (tAsg te (gName i)) tz D σ H := h H (Ex.refl _) _ fun p H1 e hp => k p H1 e hp
theorem ew_repT {k : Int} (ha : EvW K ta σ H xs) (hb : Ev tb σ H (.int k)) (hne : xs ≠ []) (h1 : 2 ≤ k) (h2 : k ≤ 1000) (hz : xs.length ≤ 1000) : EvW K (tOp (rRepT K) ta tb) σ H (List.replicate k.toNat xs).flatten := fun H1 e Q q =>
  ha H1 e _ fun p H2 e2 hp => hb H2 (e.trans e2) _ fun H3 e3 => ⟨p, k, xs, rfl, rfl, ex_t e3 hp, hne, h1, h2, hz, fun r hr => q r _ ((e2.trans e3).trans (Ex.new hr)) (st_of upd_same)⟩
/-- for over a list that is drawn -/
theorem x_forX {g : L2.TG} {A : List Int → Prop} (hs : HS H h l) (hx : EvX te σ H h l (LI A)) (k : ∀ p ns H2, Dr h l H H2 → wn H2 (hl h l) p = some (.lst (ns.map V.int)) → A ns → tSeq (tFor (iList K (tC (.ref p))) g tu) tz D σ H2) : tSeq (tFor (iList K te) g tu) tz D σ H :=
  hx H (Dr.refl hs) _ fun v H2 d ⟨p, ns, e, hp, hA⟩ => by
    subst e
    exact k p ns H2 d hp hA
theorem x_ifX {P : V → Hp → Prop} {tt : TT} {b : Bool} (ht : EvT tt σ (wn H (hl h l)) b) (h1 : b = true → EvX ta σ H h l P) (h2 : b = false → EvX tb σ H h l P) : EvX (tIf tt ta tb) σ H h l P := fun H1 d Q q =>
  ht H1 (d.ex.trans wn_ex) _ fun H2 e2 => by
    have d2 := Dr.of d.hs e2
    cases b with
    | true => exact h1 rfl H2 (d.trans d2) Q fun v H3 d3 p => q v H3 (d2.trans d3) p
    | false => exact h2 rfl H2 (d.trans d2) Q fun v H3 d3 p => q v H3 (d2.trans d3) p
theorem xi_min {A B C : Int → Prop} (ha : EvI ta σ H h l A) (hb : EvI tb σ H h l B) (hc : ∀ i j, A i → B j → C (min i j)) : EvI (tCB rMn (tCons ta (tCons tb tNil))) σ H h l C := fun H1 d Q q =>
  ha H1 d _ fun _ H2 d2 ⟨i, e, hi⟩ => hb H2 (d.trans d2) _ fun _ H3 d3 ⟨j, e', hj⟩ => by
    subst e e'
    refine ⟨i, j, rfl, ?_⟩
    have z : (if j < i then j else i) = min i j := by omega
    rw [z]
    exact q _ H3 (d2.trans d3) ⟨_, rfl, hc i j hi hj⟩
/-- a new rule, while cells are drawn -/
def RuP (Z : Ad) (kind : RK → Prop) : V → Hp → Prop := fun v G => ∃ r dx rk, v = .ref r ∧ kind rk ∧ RuleR Z G r dx rk
theorem x_ru (hr : ∀ G, Ex (wn H (hl h l)) G → EvRu Z te σ G rk) {kind : RK → Prop} (hk : kind rk) : EvX te σ H h l (RuP Z kind) := fun H1 d Q q =>
  hr H1 (d.ex.trans wn_ex) H1 (Ex.refl _) Q fun r dx H2 _ e2 hR => by
    have d2 := Dr.of d.hs e2
    exact q _ H2 d2 ⟨r, dx, rk, rfl, hk, ru_wn d2.hs hR⟩
theorem x_ruI {A : Int → Prop} {kind : RK → Prop} (ha : EvI ta σ H h l A) (hA : ∀ g, A g → 0 ≤ g ∧ g ≤ 1000000000 ∧ kind (.ref g)) : EvX (tMake Z.c_RefillRule (sp_Rinit Z isRef mkRef) [] E (tCons ta tNil)) σ H h l (RuP Z kind) := fun H1 d Q q =>
  ha H1 d _ fun v H2 d2 ⟨g, e, hg⟩ => by
    subst e
    obtain ⟨g0, g1, hk⟩ := hA g hg
    have z := er_ref (Z := Z) (σ := [some (.int g)]) (H := H2) (E := E) (t := tCons (tVar 0) tNil) (ea_cons (ev_var rfl) ea_nil) g0 g1 H2 (Ex.refl _) Q fun r dx H3 _ e3 hR => by
      have d3 := Dr.of d2.hs e3
      exact q _ H3 (d2.trans d3) ⟨r, dx, .ref g, rfl, hk, ru_wn d3.hs hR⟩
    dsimp only [tMake, tCons, tNil] at z
    obtain ⟨v1, r1, z⟩ := z
    cases r1
    exact z
end
/-! ### the mathematics of what is wished -/
theorem flat_get (ds : List Int) (hn : 0 < ds.length) : ∀ (m j : Nat), j < m * ds.length → ((List.replicate m ds).flatten).getD j 0 = ds.getD (j % ds.length) 0
  | 0, j, h => by simp at h
  | m + 1, j, h => by
    rw [List.replicate_succ, List.flatten_cons]
    by_cases z : j < ds.length
    · rw [List.getD_eq_getElem?_getD, List.getElem?_append_left z, Nat.mod_eq_of_lt z, List.getD_eq_getElem?_getD]
    · have hz : ds.length ≤ j := by omega
      rw [List.getD_eq_getElem?_getD, List.getElem?_append_right hz, ← List.getD_eq_getElem?_getD, flat_get ds hn m (j - ds.length) (by rw [Nat.succ_mul] at h; omega), ← Nat.mod_eq_sub_mod hz]
theorem wished_sum {ds : List Int} {n : Nat} (hn : 0 < ds.length) (h : n ≤ 200) : (((List.replicate 200 ds).flatten).take n).sum = psum (dem ds) n := by
  rw [psum_take]
  refine psum_congr fun j hj => ?_
  rw [flat_get ds hn 200 j (by have : 200 * 1 ≤ 200 * ds.length := Nat.mul_le_mul_left _ hn; omega)]
  rfl
theorem flat_map {m : Nat} {ds : List Int} : (List.replicate m (ds.map V.int)).flatten = ((List.replicate m ds).flatten).map V.int := by
  rw [List.map_flatten, List.map_replicate]
variable {P : Program} {w : World} {K : PySem.W.Frag} {mg : Str → Option Value} {base : Heap} {Z : Ad}
theorem ok_Bakery_sold (T : Txt K mg Z) : FnOk P w K mg base CX0 4 Z.f_Bakery_sold Z.d_Bakery_sold p_Bakery_sold (sp_Bday K Z 0) := by
  refine T.F_Bakery_sold.ok sc_Bakery_sold (fun vs H Q E h => ?_) (fun cdv Ar outer s H vs Q E hr h => ?_)
  · obtain ⟨b, bs, ds, life, i, t, rfl, _⟩ := h
    rfl
  · obtain ⟨b, bs, ds, life, i, t, rfl, ht, hB, k⟩ := h
    refine ⟨_, (pss_cons (ps_expr (pe_call (ok_check_number T) (hr.mono (by decide)) (by rfl) T.g_check_number T.F_check_number.kp T.b_check_number .nil pass0 (pa_cons (pv 1) (pa_cons pe_int (pa_cons (pe_glob (v := .int 1000000000000000000) (by rfl) T.g_LAST_DAY ⟨_, rfl⟩) pa_nil)))))
      (pss_one (ps_ret (pe_ix (r := rIxT K) ix_tup (pe_meth (pe_fldK K rfl (pv 0) rfl) T.cl_Course T.m_Course_sales_on (ok_Course_sales_on T) (hr.mono (by decide)) T.b_Course_sales_on .nil pass0 (pa_cons (pv 1) pa_nil)) pe_int (fun _ _ => rfl))))), ?_⟩
    refine q_drop (ev_call (ea_cons (ev_var rfl) (ea_cons ev_c (ea_cons ev_c ea_nil))) (spv_num (by omega) ht)) fun H1 e1 => ?_
    obtain ⟨c, fc, hC⟩ := (hB.mono e1).fc
    obtain ⟨tb, td, tk, s⟩ := hC.sr
    have hs : salesI bs ds (keepL bs life) (gainOf bs ds) (firstOf bs ds (keepL bs life)) (fullOf bs ds (keepL bs life)) (t : Int) = _ := sales_is hB.com t
    refine s_ret (ev_ixNU (i := 0) (v := .int (solS bs ds (keepL bs life) t)) (eu_meth (by walk_at "ev") (hC.nf _ (by decide)) (ea_cons (ev_var rfl) ea_nil) (spu_sales_on s)) ev_c (by rw [hs]; rfl)) fun H2 e2 => k H2 (e1.trans e2)
def sp_lawamounts (K : PySem.W.Frag) : Sp := fun vs H Q _ => ∃ (h l : Addr) (cells : List Int) (count high : Int), vs = [.ref h, .int count, .int high] ∧ 0 ≤ count ∧ count ≤ 1000 ∧ 0 ≤ high ∧ high ≤ 1000000000 ∧ HS H h l ∧ SqL K (wn H (hl h l)) l (cells.map V.int) ∧
  ∀ (p : Addr) (ns : List Int) (H' : Hp), Dr h l H H' → wn H' (hl h l) p = some (.tup (ns.map V.int)) → (ns.length : Int) = count → (∀ x ∈ ns, 0 ≤ x ∧ x ≤ high) → Q (.ref p) H'
theorem ok__law_amounts (T : Txt K mg Z) : FnOk P w K mg base CX0 2 Z.f__law_amounts Z.d__law_amounts p__law_amounts (sp_lawamounts K) := by
  refine T.F__law_amounts.ok sc__law_amounts (fun vs H Q E h => ?_) (fun cdv Ar outer s H vs Q E hr h => ?_)
  · obtain ⟨a, l, cells, count, high, rfl, _⟩ := h
    rfl
  · obtain ⟨a, l, cells, count, high, rfl, c0, c1, w0, w1, hs, hS, k⟩ := h
    refine ⟨_, (pss_one (ps_ret (pe_callTy (r := rTupS K) (call_tuple_of) (by rfl) T.b_tuple boot_tuple (pa_cons (pe_lc (own := [("_law_k", 3)]) rfl sc__law_amounts.nd (pi_range1 (by rfl) T.b_range (pa_cons (pv 1) pa_nil)) (blkOk_by (own := [("_law_k", 3)]) (N := n__law_amounts) (sc := defScope s__law_amounts) (scope := { kind := PySem.ScopeKind.function, names := [ (PySem.Str.ofString ".0", PySem.NameKind.local), (PySem.Str.ofString "_law_k", PySem.NameKind.local), (PySem.Str.ofString "_law_drawn", PySem.NameKind.globalImplicit), (PySem.Str.ofString "int", PySem.NameKind.globalImplicit), (PySem.Str.ofString "_law_high", PySem.NameKind.free), (PySem.Str.ofString "_law_state", PySem.NameKind.free)], isGenerator := false, isCoroutine := false, more := [] : PySem.Scope }) (by decide +kernel)) (fun _ _ _ _ _ => (pg_name (i := 3) sc__law_amounts.nd rfl (Or.inl rfl))) (fun _ _ _ _ _ => pts_nil) (fun _ _ _ _ _ => (pe_op op_mul (pe_call (ok__law_drawn T) (hr.mono (by decide)) (by rfl) T.g__law_drawn T.F__law_drawn.kp T.b__law_drawn .nil pass0 (pa_cons (pv 0) (pa_cons (pe_op op_add (pv 2) pe_int) pa_nil))) (pe_callTy (r := rInt1) (call_int1) (by rfl) T.b_int boot_int (pa_cons (pe_cmpR op_gt (pe_call (ok__law_drawn T) (hr.mono (by decide)) (by rfl) T.g__law_drawn T.F__law_drawn.kp T.b__law_drawn .nil pass0 (pa_cons (pv 0) (pa_cons pe_int pa_nil))) pe_int (nomark _)) pa_nil))))) pa_nil)))), ?_⟩
    have hx : EvX _ _ H a l (TI' fun ns => (ns.length : Int) = count ∧ ∀ x ∈ ns, 0 ≤ x ∧ x ≤ high) := x_tupL (K := K) (x_lcR (jj := 3) (vs := [3]) (n := count) (σ := [some (.ref a), some (.int count), some (.int high), none]) (ea_cons (ev_var (i := 1) rfl) ea_nil) ⟨c0, by omega⟩ (fun _ => rfl) fun i H1 d1 hi =>
      xi_op (A := fun v => 0 ≤ v ∧ v < high + 1) (B := fun i => i = 0 ∨ i = 1) (xi_dr (E := E0) (n := high + 1) (ex_l d1.ex hS) (fun G => ev_var (i := 0) rfl) (xi_op0 (g := fun i j => i + j) (A := fun i => i = high) (B := fun i => i = 1) (xi_ev (ev_var (i := 2) rfl) rfl) (xi_ev ev_c rfl) (fun i j a b => by omega)) (by omega) (by omega))
        (xi_intb (xb_cmp (g := fun i j => decide (j < i)) (B := fun _ => True) (xi_dr (E := E0) (n := 4) (ex_l d1.ex hS) (fun G => ev_var (i := 0) rfl) (xi_ev ev_c rfl) (by decide) (by decide)) (xi_ev (i := 0) ev_c trivial)))
        (R := CMul) (g := fun i j => i * j) fun i j hi hj => ⟨by rcases hj with rfl | rfl <;> exact .inr (by decide), by rcases hj with rfl | rfl <;> simp <;> omega⟩)
    exact hx H (Dr.refl hs) _ fun v H2 d2 ⟨p, ns, e, hp, hl', hA⟩ => by
      subst e
      exact k p ns H2 d2 hp hl' hA
theorem x_amountsI {σ : L2.St} {H : Hp} {h l : Addr} {ta tb tc : TE} {E : XK} {cells : List Int} {A B : Int → Prop} (hc : SqL K (wn H (hl h l)) l (cells.map V.int)) (ha : ∀ G, Ev ta σ G (.ref h)) (hb : EvI tb σ H h l A) (hw : EvI tc σ H h l B) (hA : ∀ n, A n → 0 ≤ n ∧ n ≤ 1000) (hB : ∀ n, B n → 0 ≤ n ∧ n ≤ 1000000000) :
    EvX (tCall (sp_lawamounts K) [] E (tCons ta (tCons tb (tCons tc tNil)))) σ H h l (TI' fun ns => A (ns.length : Int) ∧ ∃ w, B w ∧ ∀ x ∈ ns, 0 ≤ x ∧ x ≤ w) :=
  x_call3 (A := A) (B := B) ha hb hw fun i j H1 ei ej d1 Q q => by
    obtain ⟨a0, a1⟩ := hA i ei
    obtain ⟨b0, b1⟩ := hB j ej
    exact ⟨h, l, cells, i, j, rfl, a0, a1, b0, b1, d1.hs, ex_l d1.ex hc, fun p ns H2 d2 hp e1 e2 => q _ H2 d2 ⟨p, ns, rfl, hp, by rw [e1]; exact ei, j, ej, e2⟩⟩
end Sw
namespace Sw
open PySem PySem.Spec PyProof.Rows L2 Evl GnX
local macro_rules | `(tactic| walk_at "ev") => `(tactic| first
  | exact ev_c
  | exact ev_var rfl
  | ((with_reducible show Ev (tCB rMax2 _) _ _ _); exact ev_maxi (by walk_at "ev") (by walk_at "ev"))
  | ((with_reducible show Ev (tCB rMn _) _ _ _); exact ev_min2 (by walk_at "ev") (by walk_at "ev"))
  | ((with_reducible show Ev (tUn _ _) _ _ _); exact ev_un (by walk_at "ev") ru_neg)
  | ((with_reducible show Ev (tFld _ _ _) _ _ _); exact ev_fldK (by walk_at "ev") (by assumption))
  | ((with_reducible show Ev (tOp (rI0 _) _ _) _ _ _); exact ev_op (by walk_at "ev") (by walk_at "ev") rv_I0)
  | ((with_reducible show Ev (tOp rEq _ _) _ _ _); exact ev_op (by walk_at "ev") (by walk_at "ev") (rv_eq rfl))
  | ((with_reducible show Ev (tOp rNe _ _) _ _ _); exact ev_op (by walk_at "ev") (by walk_at "ev") (rv_ne rfl)))

def sp_law (K : PySem.W.Frag) : Sp := fun vs H Q _ => ∃ (a : Addr) (ns : List Int), vs = [.ref a] ∧ SqL K H a (ns.map V.int) ∧ ns.length ≤ 63 ∧ ∀ H', Q (.bl true) H'
theorem sql_wn {K : PySem.W.Frag} {h l : Addr} {H H1 : Hp} {xs : List V} (hh : H h = none) (hS : SqL K H l xs) (e : Ex H H1) : SqL K (wn H1 (hl h l)) l xs := by
  have go : ∀ {o : HO}, H l = some o → wn H1 (hl h l) l = some o := fun {o} q => by
    have ne : ¬ hl h l l := fun z => by rw [show l = h from z, hh] at q; cases q
    exact (wn_ni ne).trans (e _ _ q)
  rcases hS with (q | ⟨u, q⟩) | q
  · exact .inl (.inl (go q))
  · exact .inl (.inr ⟨u, go q⟩)
  · exact .inr q
section
variable {K : PySem.W.Frag} {Z : Ad} {σ : L2.St} {H : Hp} {te : TE} {xs ys : List V}
theorem ew_eq (h : EvW K te σ H xs) (e : xs = ys) : EvW K te σ H ys := e ▸ h
theorem spv_Bday {b : Addr} {bs ds : List Int} {life : Int} {i t j : Nat} (hB : BakAt K Z H b bs ds life i) (ht : (t : Int) ≤ 1000000000000000000) : SpV (sp_Bday K Z j) [.ref b, .int (t : Int)] H (.int ([solS bs ds (keepL bs life) t, misS bs ds (keepL bs life) t, thrS bs ds (keepL bs life) t].getD j 0)) := fun _ e _ q _ => ⟨b, bs, ds, life, i, t, rfl, ht, hB.mono e, q⟩
theorem spu_Btot {b : Addr} {bs ds : List Int} {life : Int} {i t : Nat} (hB : BakAt K Z H b bs ds life i) (ht : (t : Int) ≤ 1000000000000000000) : SpU (sp_Btot K Z) [.ref b, .int (t : Int)] H ((totS bs ds (keepL bs life) t).map V.int) := fun _ e _ q _ => ⟨b, bs, ds, life, i, t, rfl, ht, hB.mono e, q⟩
end
theorem psum_flat (a : Int) : ∀ n : Nat, psum (fun _ => a) n = a * (n : Int)
  | 0 => by simp [psum]
  | n + 1 => by
    show psum (fun _ => a) n + a = _
    rw [psum_flat a n]
    push_cast
    rw [Int.mul_add, Int.mul_one]
theorem fix_cols {a : Int} {ds : List Int} {L : Nat} (ha : 0 ≤ a) (hL : 1 ≤ L) (hn : 0 < ds.length) (hd : ∀ x ∈ ds, 0 ≤ x ∧ x ≤ 1000000000) (n : Nat) :
    cols (.fix a) ds L n = (a * (n : Int)) :: totS (List.replicate ds.length a) ds (keepL (List.replicate ds.length a) (L : Int)) n := by
  have h := fix_row (L := L) ha hL hn hd
  have e0 : (fun d => (rrow (.fix a) ds L d).getD 0 0) = fun _ => a := funext fun d => by rw [h d]; rfl
  have e1 : (fun d => (rrow (.fix a) ds L d).getD 1 0) = solS (List.replicate ds.length a) ds (keepL (List.replicate ds.length a) (L : Int)) := funext fun d => by rw [h d]; rfl
  have e2 : (fun d => (rrow (.fix a) ds L d).getD 2 0) = misS (List.replicate ds.length a) ds (keepL (List.replicate ds.length a) (L : Int)) := funext fun d => by rw [h d]; rfl
  have e3 : (fun d => (rrow (.fix a) ds L d).getD 3 0) = thrS (List.replicate ds.length a) ds (keepL (List.replicate ds.length a) (L : Int)) := funext fun d => by rw [h d]; rfl
  unfold cols rcol totS
  rw [e0, e1, e2, e3, psum_flat]
variable {P : Program} {w : World} {K : PySem.W.Frag} {mg : Str → Option Value} {base : Heap} {Z : Ad}
theorem ok_law (T : Txt K mg Z) (hP : P = Z.P) : FnOk P w K mg base CX0 8 Z.f_law Z.d_law p_law (sp_law K) := by
  refine T.F_law.ok sc_law (fun vs H Q E h => ?_) (fun cdv Ar outer s H vs Q E hr h => ?_)
  · obtain ⟨a, ns, rfl, _⟩ := h
    rfl
  · obtain ⟨l, cells, rfl, hS, hn, k⟩ := h
    have p9 : (10 : Int) ^ (9 : Int).toNat = 1000000000 := by decide
    refine ⟨_, (pss_cons (ps_set (i := 1) sc_law.nd rfl (Or.inr rfl) (pe_call (ok__law_start T) (hr.mono (by decide)) (by rfl) T.g__law_start T.F__law_start.kp T.b__law_start .nil pass0 (pa_cons (pv 0) pa_nil)))
      (pss_cons (ps_for PassesOwn.never rfl (pi_range1 (by rfl) T.b_range (pa_cons pe_int pa_nil)) (pg_name (i := 2) sc_law.nd rfl (Or.inl rfl)) (pss_cons (ps_set (i := 3) sc_law.nd rfl (Or.inl rfl) (pe_ix (r := rIxL K) ix_list (pe_lst (pa_cons pe_int (pa_cons pe_int (pa_cons (pe_op op_pow pe_int pe_int) pa_nil)))) (pe_call (ok__law_drawn T) (hr.mono (by decide)) (by rfl) T.g__law_drawn T.F__law_drawn.kp T.b__law_drawn .nil pass0 (pa_cons (pv 1) (pa_cons pe_int pa_nil))) (fun _ _ => rfl)))
      (pss_cons (ps_set (i := 4) sc_law.nd rfl (Or.inl rfl) (pe_call (ok__law_amounts T) (hr.mono (by decide)) (by rfl) T.g__law_amounts T.F__law_amounts.kp T.b__law_amounts .nil pass0 (pa_cons (pv 1) (pa_cons (pe_op op_add pe_int (pe_call (ok__law_drawn T) (hr.mono (by decide)) (by rfl) T.g__law_drawn T.F__law_drawn.kp T.b__law_drawn .nil pass0 (pa_cons (pv 1) (pa_cons pe_int pa_nil)))) (pa_cons (pv 3) pa_nil)))))
      (pss_cons (ps_asg (pe_tup (pa_cons (pe_op op_add pe_int (pe_call (ok__law_drawn T) (hr.mono (by decide)) (by rfl) T.g__law_drawn T.F__law_drawn.kp T.b__law_drawn .nil pass0 (pa_cons (pv 1) (pa_cons pe_int pa_nil)))) (pa_cons (pe_call (ok__law_drawn T) (hr.mono (by decide)) (by rfl) T.g__law_drawn T.F__law_drawn.kp T.b__law_drawn .nil pass0 (pa_cons (pv 1) (pa_cons pe_int pa_nil))) (pa_cons (pe_call (ok__law_drawn T) (hr.mono (by decide)) (by rfl) T.g__law_drawn T.F__law_drawn.kp T.b__law_drawn .nil pass0 (pa_cons (pv 1) (pa_cons (pe_op op_add (pv 3) pe_int) pa_nil))) pa_nil)))) (by exact (pg_tupK K (n := 3) rfl rfl (pgs_cons (pg_name (i := 5) sc_law.nd rfl (Or.inl rfl)) (pgs_cons (pg_name (i := 6) sc_law.nd rfl (Or.inr rfl)) (pgs_cons (pg_name (i := 7) sc_law.nd rfl (Or.inl rfl)) pgs_nil))))))
      (pss_cons (ps_set (i := 8) sc_law.nd rfl (Or.inl rfl) (pe_make T.mk_Bakery (ok_Bakery___init__ T) (hr.mono (by decide)) (by rfl) T.g_Bakery T.b_Bakery___init__ .nil pass0 (pa_cons (pe_op (op_rep1K K rfl) (pe_tup (pa_cons (pv 7) pa_nil)) (pe_callB (r := rLenS K) (call_len_seq) (by rfl) T.b_len boot_len (pa_cons (pv 4) pa_nil))) (pa_cons (pv 4) (pa_cons (pv 5) pa_nil)))))
      (pss_cons (ps_if (pt_cmpR (op_neD hr.units) (pe_call (ok_outcome T) (hr.mono (by decide)) (by rfl) T.g_outcome T.F_outcome.kp T.b_outcome .nil pass0 (pa_cons (pe_make T.mk_Rule (ok_Rule___init__ T) (hr.mono (by decide)) (by rfl) T.g_Rule T.b_Rule___init__ .nil pass0 (pa_cons (pv 7) pa_nil)) (pa_cons (pv 4) (pa_cons (pv 5) (pa_cons (pv 6) pa_nil))))) (pe_op op_catA (pe_tup (pa_cons (pe_op op_mul (pv 7) (pv 6)) pa_nil)) (pe_meth (pv 8) T.cl_Bakery T.m_Bakery_totals (ok_Bakery_totals T) (hr.mono (by decide)) T.b_Bakery_totals .nil pass0 (pa_cons (pv 6) pa_nil))) (nomark _)) (pss_one (ps_ret pe_bl)) pss_nil)
      (pss_cons (GnX.ps_setLcGn (i := 9) (own := [("_law_row", 19)]) rfl sc_law.nd rfl rfl (sw_true rfl rfl rfl (by decide +kernel)) (hr.mono (by decide)) (GnX.pgn_call (ok_run T) (hr.mono (by decide)) (by rfl) T.g_run T.F_run.kp T.b_run .nil (pa_cons (pe_make T.mk_Rule (ok_Rule___init__ T) (hr.mono (by decide)) (by rfl) T.g_Rule T.b_Rule___init__ .nil pass0 (pa_cons (pv 7) pa_nil)) (pa_cons (pv 4) (pa_cons (pv 5) (pa_cons (pv 6) pa_nil))))) (blkOk_by (own := [("_law_row", 19)]) (N := n_law) (sc := defScope s_law) (scope := { kind := PySem.ScopeKind.function, names := [(PySem.Str.ofString ".0", PySem.NameKind.local), (PySem.Str.ofString "_law_row", PySem.NameKind.local)], isGenerator := false, isCoroutine := false, more := [] : PySem.Scope }) (by decide +kernel)) (fun _ _ _ _ _ => (pg_name (i := 19) sc_law.nd rfl (Or.inl rfl))) (fun _ _ _ _ _ => (pv 19)))
      (pss_cons (ps_for PassesOwn.never rfl (pi_listK K rfl (pe_ifExp (pt_cmpR op_gt (pv 6) pe_int (nomark _)) (pe_lc (own := [("_law_k", 20)]) rfl sc_law.nd (pi_range1 (by rfl) T.b_range (pa_cons pe_int pa_nil)) (blkOk_by (own := [("_law_k", 20)]) (N := n_law) (sc := defScope s_law) (scope := { kind := PySem.ScopeKind.function, names := [ (PySem.Str.ofString ".0", PySem.NameKind.local), (PySem.Str.ofString "_law_k", PySem.NameKind.local), (PySem.Str.ofString "_law_drawn", PySem.NameKind.globalImplicit), (PySem.Str.ofString "_law_days", PySem.NameKind.free), (PySem.Str.ofString "_law_state", PySem.NameKind.free)], isGenerator := false, isCoroutine := false, more := [] : PySem.Scope }) (by decide +kernel)) (fun _ _ _ _ _ => (pg_name (i := 20) sc_law.nd rfl (Or.inl rfl))) (fun _ _ _ _ _ => pts_nil) (fun _ _ _ _ _ => (pe_call (ok__law_drawn T) (hr.mono (by decide)) (by rfl) T.g__law_drawn T.F__law_drawn.kp T.b__law_drawn .nil pass0 (pa_cons (pv 1) (pa_cons (pv 6) pa_nil))))) (pe_lst pa_nil))) (pg_name (i := 10) sc_law.nd rfl (Or.inl rfl)) (pss_one (ps_if (pt_cmpR (op_neD hr.units) (pe_ix (r := rIxL K) ix_list (pv 9) (pv 10) (fun _ _ => rfl)) (pe_tup (pa_cons (pv 7) (pa_cons (pe_meth (pv 8) T.cl_Bakery T.m_Bakery_sold (ok_Bakery_sold T) (hr.mono (by decide)) T.b_Bakery_sold .nil pass0 (pa_cons (pv 10) pa_nil)) (pa_cons (pe_meth (pv 8) T.cl_Bakery T.m_Bakery_missed (ok_Bakery_missed T) (hr.mono (by decide)) T.b_Bakery_missed .nil pass0 (pa_cons (pv 10) pa_nil)) (pa_cons (pe_meth (pv 8) T.cl_Bakery T.m_Bakery_thrown (ok_Bakery_thrown T) (hr.mono (by decide)) T.b_Bakery_thrown .nil pass0 (pa_cons (pv 10) pa_nil)) pa_nil))))) (nomark _)) (pss_one (ps_ret pe_bl)) pss_nil)))
      (pss_cons (ps_set (i := 11) sc_law.nd rfl (Or.inl rfl) pe_int)
      (pss_cons (GnX.ps_forGn PassesOwn.never (fun _ _ _ z _ => z) rfl (hr.mono (by decide)) (GnX.pgn_call (ok_run T) (hr.mono (by decide)) (by rfl) T.g_run T.F_run.kp T.b_run .nil (pa_cons (pe_make T.mk_RefillRule (ok_RefillRule___init__ T) (hr.mono (by decide)) (by rfl) T.g_RefillRule T.b_RefillRule___init__ .nil pass0 (pa_cons (pv 7) pa_nil)) (pa_cons (pv 4) (pa_cons (pv 5) (pa_cons (pv 6) pa_nil))))) (by exact (pg_tupK K (n := 4) rfl rfl (pgs_cons (pg_name (i := 12) sc_law.nd rfl (Or.inl rfl)) (pgs_cons (pg_name (i := 13) sc_law.nd rfl (Or.inl rfl)) (pgs_cons (pg_name (i := 14) sc_law.nd rfl (Or.inl rfl)) (pgs_cons (pg_name (i := 15) sc_law.nd rfl (Or.inl rfl)) pgs_nil)))))) (pss_cons (ps_set (i := 11) sc_law.nd rfl (Or.inl rfl) (pe_op op_add (pv 11) (pv 12)))
      (pss_cons (ps_if (PW.pt (pw_or (pt_cmpR op_gt (pv 11) (pv 7) (nomark _)) (pw_or1 (pt_cmpR op_gt (pv 13) (pv 11) (nomark _))))) (pss_one (ps_ret pe_bl)) pss_nil)
      (pss_one (ps_set (i := 11) sc_law.nd rfl (Or.inl rfl) (pe_op op_sub (pe_op op_sub (pv 11) (pv 13)) (pv 15)))))))
      (pss_cons (ps_par (i := 16) (j := 17) rfl sc_law.nd rfl rfl (by decide) rfl rfl (pa_cons (pe_make T.mk_RefillRule (ok_RefillRule___init__ T) (hr.mono (by decide)) (by rfl) T.g_RefillRule T.b_RefillRule___init__ .nil pass0 (pa_cons (pv 7) pa_nil)) (pa_cons (pe_make T.mk_RefillRule (ok_RefillRule___init__ T) (hr.mono (by decide)) (by rfl) T.g_RefillRule T.b_RefillRule___init__ .nil pass0 (pa_cons (pe_callB (r := rMn) (call_min2 rfl) (by rfl) T.b_min boot_min (pa_cons (pe_op op_pow pe_int pe_int) (pa_cons (pe_op op_add (pv 7) (pe_call (ok__law_drawn T) (hr.mono (by decide)) (by rfl) T.g__law_drawn T.F__law_drawn.kp T.b__law_drawn .nil pass0 (pa_cons (pv 1) (pa_cons pe_int pa_nil)))) pa_nil))) pa_nil)) pa_nil)) (by rfl))
      (pss_cons (ps_if (pt_cmpR op_gt (pe_ix (r := rIxT K) ix_tup (pe_call (ok_outcome T) (hr.mono (by decide)) (by rfl) T.g_outcome T.F_outcome.kp T.b_outcome .nil pass0 (pa_cons (pv 17) (pa_cons (pv 4) (pa_cons (pv 5) (pa_cons (pv 6) pa_nil))))) pe_int (fun _ _ => rfl)) (pe_ix (r := rIxT K) ix_tup (pe_call (ok_outcome T) (hr.mono (by decide)) (by rfl) T.g_outcome T.F_outcome.kp T.b_outcome .nil pass0 (pa_cons (pv 16) (pa_cons (pv 4) (pa_cons (pv 5) (pa_cons (pv 6) pa_nil))))) pe_int (fun _ _ => rfl)) (nomark _)) (pss_one (ps_ret pe_bl)) pss_nil)
      (pss_cons (ps_asg (pe_call (ok_outcome T) (hr.mono (by decide)) (by rfl) T.g_outcome T.F_outcome.kp T.b_outcome .nil pass0 (pa_cons (pe_makeK T.mk_SoldRule (ok_SoldRule___init__ T hP) (hr.mono (by decide)) (by rfl) T.g_SoldRule T.b_SoldRule___init__ pass0 (pa_cons (pv 7) pa_nil) (pk_cons pe_int pk_nil)) (pa_cons (pv 4) (pa_cons (pv 5) (pa_cons (pv 6) pa_nil))))) (by exact (pg_tupK K (n := 4) rfl rfl (pgs_cons (pg_name (i := 12) sc_law.nd rfl (Or.inl rfl)) (pgs_cons (pg_name (i := 13) sc_law.nd rfl (Or.inl rfl)) (pgs_cons (pg_name (i := 14) sc_law.nd rfl (Or.inl rfl)) (pgs_cons (pg_name (i := 15) sc_law.nd rfl (Or.inl rfl)) pgs_nil)))))))
      (pss_cons (ps_set (i := 18) sc_law.nd rfl (Or.inl rfl) (pe_slice (r := rSlA K) sl_tupA (pe_op (op_repTK K rfl) (pv 4) pe_int) po_none (po_some (pv 6))))
      (pss_one (ps_if (PW.pt (pw_or (pt_cmpR op_lt (pv 12) (pe_op op_add (pv 13) (pv 15)) (nomark _)) (pw_or1 (pt_cmpR op_ne (pe_op op_add (pv 13) (pv 14)) (pe_callB (r := rSumT K) (cr_sumT rfl) (by rfl) T.b_sum boot_sum (pa_cons (pv 18) pa_nil)) (nomark _))))) (pss_one (ps_ret pe_bl)) pss_nil))))))))))))))))
      (pss_one (ps_ret pe_bl)))), ?_⟩
    refine ⟨_, rfl, l, cells, rfl, hS, hn, fun h H1 hh e1 hs1 => ?_⟩
    refine q_forR1 (n := 4) (ea_cons ev_c ea_nil) ⟨by decide, by decide⟩ (fun _ σ' H' => (∃ x2 x3 x4 x5 x6 x7 x8 x9 x10 x11 x12 x13 x14 x15 x16 x17 x18 x19 x20, σ' = [some (.ref l), some (.ref h), x2, x3, x4, x5, x6, x7, x8, x9, x10, x11, x12, x13, x14, x15, x16, x17, x18, x19, x20]) ∧ HS H' h l ∧ SqL K (wn H' (hl h l)) l (cells.map V.int))
      (fun H2 e2 => ⟨⟨_, _, _, _, _, _, _, _, _, _, _, _, _, _, _, _, _, _, _, rfl⟩, hs1.mono e2, sql_wn hh hS (e1.trans e2)⟩) ?_ (fun σ' H' q => ?_)
    · rintro turn σ' H0 ht ⟨⟨_, _, _, _, _, _, _, _, _, _, _, _, _, _, _, _, _, _, _, rfl⟩, hs0, hc0⟩
      -- the greatest amount
      refine x_asgI (A := fun i => i = 5 ∨ i = 30 ∨ i = 1000000000) hs0 ((xi_pick (K := K) (n := 3) (ns := [5, 30, 1000000000]) (B := fun i => 0 ≤ i ∧ i < 3) (el_lst (ea_cons ev_c (ea_cons ev_c (ea_cons (Ev.int_eq (ev_op ev_c ev_c (rv_I ⟨by decide, by decide, by decide⟩)) p9) ea_nil))) (by show 3 ≤ 100000; decide))
        (xi_dr (cells := cells) hc0 (fun G => ev_var rfl) (xi_ev ev_c rfl) (by decide) (by decide)) (fun i q => by simpa using q)).imp fun i q => by simpa using q) fun high H2 d2 hh2 => ?_
      have hc2 := ex_l d2.ex hc0
      -- the demands
      refine x_asg d2.hs (x_amountsI (cells := cells) (A := fun i => 1 ≤ i ∧ i ≤ 7) (B := fun i => i = high) hc2 (fun G => ev_var rfl) (xi_op0 (A := fun i => i = 1) (xi_ev ev_c rfl) (xi_dr (cells := cells) (n := 7) hc2 (fun G => ev_var rfl) (xi_ev ev_c rfl) (by decide) (by decide)) (fun i j a b => by omega)) (xi_ev (ev_var rfl) rfl) (fun n q => by omega) (fun n q => by omega)) fun v H3 d3 ⟨pd, ds, ev, hd3, ld, w0, ew, md⟩ => ?_
      subst ev
      rw [ew] at md
      have hc3 := ex_l d3.ex hc2
      have dd : ∀ x ∈ ds, 0 ≤ x ∧ x ≤ 1000000000 := fun x hx => by have := md x hx; omega
      -- the life, the days, the amount
      refine x_tripI (A := fun i => 1 ≤ i ∧ i ≤ 30) (B := fun i => 0 ≤ i ∧ i < 200) (C := fun i => 0 ≤ i ∧ i < high + 1) d3.hs (xi_op0 (A := fun i => i = 1) (xi_ev ev_c rfl) (xi_dr (cells := cells) (n := 30) hc3 (fun G => ev_var rfl) (xi_ev ev_c rfl) (by decide) (by decide)) (fun i j a b => by omega))
        (xi_dr (cells := cells) (n := 200) hc3 (fun G => ev_var rfl) (xi_ev ev_c rfl) (by decide) (by decide))
        (xi_dr (cells := cells) (n := high + 1) hc3 (fun G => ev_var rfl) (xi_op0 (A := fun i => i = high) (B := fun i => i = 1) (xi_ev (ev_var rfl) rfl) (xi_ev ev_c rfl) (fun i j a b => by omega)) (by omega) (by omega)) fun life days a H4 d4 hli hda ham => ?_
      obtain ⟨L, rfl⟩ : ∃ L : Nat, life = (L : Int) := ⟨life.toNat, by omega⟩
      obtain ⟨n, rfl⟩ : ∃ n : Nat, days = (n : Int) := ⟨days.toNat, by omega⟩
      have hc4 := ex_l d4.ex hc3
      have hd4 := d4.ex _ _ hd3
      have a0 : 0 ≤ a := by omega
      have a1 : a ≤ 1000000000 := by omega
      have gd : Good (List.replicate ds.length a) ds := ⟨by rw [List.length_replicate]; omega, by rw [List.length_replicate]; omega, by rw [List.length_replicate], fun x hx => by rw [List.eq_of_mem_replicate hx]; omega, dd⟩
      -- the bakery
      refine q_bakW (K := K) (Z := Z) (bs := List.replicate ds.length a) (ds := ds) (life := (L : Int)) (pd := pd) d4.hs (ew_eq (ew_rep1 (eu_tup (ea_cons (ev_var rfl) ea_nil) (by show 1 ≤ 100000; decide)) (Ev.int_eq (ev_lenT (ev_var rfl) (st_of (wn_ex _ _ hd4))) (by rw [List.length_map] : ((ds.map V.int).length : Int) = (ds.length : Int))) (by omega) (by omega)) (by rw [List.map_replicate, Int.toNat_natCast])) (fun G => ev_var rfl) (fun G => ev_var rfl) (st_of hd4) gd (by omega) (by omega) fun b ix H5 e5 hB5 => ?_
      have d5 := Dr.of d4.hs e5
      have hc5 := ex_l d5.ex hc4
      have x5 : DemOk (wn H5 (hl h l)) pd ds L n := ⟨d5.ex _ _ hd4, by omega, by omega, dd, by omega, by omega, by omega⟩
      have hs5 := d5.hs
      have hn0 : 0 < ds.length := x5.n0
      have hn1 : ds.length ≤ 7 := by omega
      have hL0 := x5.l0
      have hnn : n < 200 := by omega
      have hLL : L ≤ 30 := x5.l1
      clear d2 d3 d4 d5 e5 hd3 hd4 hs0 hc0 hc2 hc3 hc4 md ld ew hli hda
      have okF : (RK.fix a).ok := ⟨a0, a1⟩
      have okR : (RK.ref a).ok := ⟨a0, a1⟩
      have okS : (RK.sol a 1).ok := ⟨a0, a1, by decide, by decide⟩
      -- what comes of a fixed rule
      refine q_when (b := false) (et_test (ev_is (ev_neUW (as := cols (.fix a) ds L n) (bs := (a * (n : Int)) :: totS (List.replicate ds.length a) ds (keepL (List.replicate ds.length a) (L : Int)) n) (eu_out (ear_new (er_fix (ea_cons (ev_var rfl) ea_nil) a0 a1) (fun G => ev_var rfl) (fun G => ev_var rfl) (fun G => ev_var rfl)) (x5.mono wn_ex) okF)
        (ew_eq (ew_cat (EvU.w (eu_tup (ea_cons (ev_op (ev_var rfl) (ev_var rfl) (rv_I (wide_ok (by omega)))) ea_nil) (by show 1 ≤ 100000; decide))) (EvU.w (eu_meth (ev_var rfl) ((hB5.mono wn_ex).nf _ (by decide)) (ea_cons (ev_var rfl) ea_nil) (spu_Btot (hB5.mono wn_ex) (by omega)))) (by show 1 + 3 ≤ 100000; decide)) rfl)) (by rw [fix_cols a0 hL0 hn0 dd]; simp))) (fun hb => nomatch hb) fun _ H6 e6 => ?_
      have hs6 := hs5.mono e6
      have w6 : Ex (wn H5 (hl h l)) (wn H6 (hl h l)) := wn_mono e6
      have hc6 := ex_l w6 hc5
      have x6 := x5.mono w6
      have hB6 := hB5.mono w6
      -- its rows
      refine q_rowsRun (j := 19) (i := 9) (ear_new (er_fix (ea_cons (ev_var rfl) ea_nil) a0 a1) (fun G => ev_var rfl) (fun G => ev_var rfl) (fun G => ev_var rfl)) (x6.mono wn_ex) okF (fun _ => rfl) (by simp) fun Dl ps H7 e7 nD hD hpl hrows => ?_
      have hs7 := hs6.mono e7
      have w7 : Ex (wn H6 (hl h l)) (wn H7 (hl h l)) := wn_mono e7
      have hc7 := ex_l w7 hc6
      have x7 := x6.mono w7
      have hB7 := hB6.mono w7
      have hDw : wn H7 (hl h l) Dl = some (.lst (ps.map V.ref)) := (wn_ni (hl_new (G' := H6) hs6 nD)).trans hD
      have hrw : ∀ (t : Nat) q, ps[t]? = some q → t < n → wn H7 (hl h l) q = some (.tup ((rrow (.fix a) ds L t).map V.int)) := fun t q h1 h2 => (wn_ni (hl_kind hs7 (hrows t q h1 h2) (fun _ z => nomatch z))).trans (hrows t q h1 h2)
      clear hD hrows w6 w7 hs5 hs6 hc5 hc6 x5 x6 hB5 hB6
      -- some of the days
      refine x_forX (A := fun ns => ∀ x ∈ ns, 0 ≤ x ∧ x < (n : Int)) hs7 (x_ifX (b := decide ((n : Int) > 0)) (et_test (ev_op (ev_var rfl) ev_c rv_I0)) (fun hb => ?_) (fun hb => ?_)) fun p ns H8 d8 hp8 hns => ?_
      · have hpos : 0 < n := by simpa using hb
        refine (x_lcR (jj := 20) (vs := [20]) (n := 4) (ea_cons ev_c ea_nil) ⟨by decide, by decide⟩ (fun _ => rfl) fun i G1 dG hi => xi_dr (cells := cells) (n := (n : Int)) (ex_l dG.ex hc7) (fun G => ev_var rfl) (xi_ev (ev_var rfl) rfl) (by omega) (by omega)).imp fun v G q => ?_
        obtain ⟨p, ns, e, hp, _, hA⟩ := q
        exact ⟨p, ns, e, hp, hA⟩
      · refine (x_evL (el_lst ea_nil (by show 0 ≤ 100000; decide))).imp fun v G q => ?_
        obtain ⟨p, e, hp⟩ := q
        exact ⟨p, [], e, hp, fun x hx => by cases hx⟩
      have hs8 := d8.hs
      have hc8 := ex_l d8.ex hc7
      have x8 := x7.mono d8.ex
      have hB8 := hB7.mono d8.ex
      have hD8 := d8.ex _ _ hDw
      have hr8 : ∀ (t : Nat) q, ps[t]? = some q → t < n → wn H8 (hl h l) q = some (.tup ((rrow (.fix a) ds L t).map V.int)) := fun t q h1 h2 => d8.ex _ _ (hrw t q h1 h2)
      refine q_forLn (K := K) (a := p) ev_c (sq_of (wn_ex _ _ hp8)) (fun _ σ' H' => (∃ x10, σ' = [some (.ref l), some (.ref h), some (.int turn), some (.int high), some (.ref pd), some (.int (L : Int)), some (.int (n : Int)), some (.int a), some (.ref b), some (.ref Dl), x10, _, _, _, _, _, _, _, _, _, _]) ∧ Ex H8 H') (fun H9 e9 => ⟨⟨_, rfl⟩, e9⟩) (fun _ _ H' _ q => ex_l q.2 (sq_of (wn_ex _ _ hp8))) ?_ ?_
      · rintro i x σ' H9 hx ⟨⟨_, rfl⟩, e9⟩
        obtain ⟨rfl, hlt⟩ := at_map hx
        have hin : ns.getD i 0 ∈ ns := by
          have e : ns.getD i 0 = ns[i] := by simp [List.getD, hlt]
          rw [e]; exact List.getElem_mem hlt
        obtain ⟨t0, t1⟩ := hns _ hin
        generalize ns.getD i 0 = t at t0 t1 ⊢
        obtain ⟨t, rfl⟩ : ∃ t' : Nat, t = (t' : Int) := ⟨t.toNat, by omega⟩
        have htn : t < n := by omega
        have ex9 : Ex (wn H8 (hl h l)) H9 := wn_ex.trans e9
        have hB9 := hB8.mono ex9
        have hq : ps[t]? = some (ps[t]'(by omega)) := List.getElem?_eq_getElem (by omega)
        exact s_when (b := false) (et_test (ev_is (ev_neRU (as := rrow (.fix a) ds L t) (bs := [a, solS (List.replicate ds.length a) ds (keepL (List.replicate ds.length a) (L : Int)) t, misS (List.replicate ds.length a) ds (keepL (List.replicate ds.length a) (L : Int)) t, thrS (List.replicate ds.length a) ds (keepL (List.replicate ds.length a) (L : Int)) t])
          (ev_ixL (ev_var rfl) (sq_of (ex9 _ _ hD8)) (ev_var rfl) (atI_nat (by rw [List.getElem?_map, hq]; rfl))) (st_of (ex9 _ _ (hr8 t _ hq htn)))
          (eu_tup (ea_cons (ev_var rfl) (ea_cons (ev_meth (ev_var rfl) (hB9.nf _ (by decide)) (ea_cons (ev_var rfl) ea_nil) (spv_Bday (j := 0) hB9 (by omega))) (ea_cons (ev_meth (ev_var rfl) (hB9.nf _ (by decide)) (ea_cons (ev_var rfl) ea_nil) (spv_Bday (j := 1) hB9 (by omega))) (ea_cons (ev_meth (ev_var rfl) (hB9.nf _ (by decide)) (ea_cons (ev_var rfl) ea_nil) (spv_Bday (j := 2) hB9 (by omega))) ea_nil)))) (by show 4 ≤ 100000; decide)))
          (by rw [fix_row a0 hL0 hn0 dd]; simp))) (fun hb => nomatch hb) fun _ H10 e10 => ⟨⟨_, rfl⟩, e9.trans e10⟩
      rintro σ' H9 ⟨⟨x10, rfl⟩, e9⟩
      have hs9 := hs8.mono e9
      have w9 : Ex (wn H8 (hl h l)) (wn H9 (hl h l)) := wn_mono e9
      have hc9 := ex_l w9 hc8
      have x9 := x8.mono w9
      clear hB7 hB8 x7 x8 hc7 hc8 hs7 hs8 hD8 hr8 hrw hDw w9 d8 hp8 hns e9 e7 e6
      -- a refill rule's loaves
      refine q_asg ev_c fun H10 e10 => ?_
      have hs10 := hs9.mono e10
      have w10 : Ex (wn H9 (hl h l)) (wn H10 (hl h l)) := wn_mono e10
      have hc10 := ex_l w10 hc9
      have x10d := x9.mono w10
      refine q_forRun (rk := .ref a) (ear_new (er_ref (ea_cons (ev_var rfl) ea_nil) a0 a1) (fun G => ev_var rfl) (fun G => ev_var rfl) (fun G => ev_var rfl)) (x10d.mono wn_ex) okR (fun j σ' H' => (∃ x12 x13 x14 x15, σ' = [some (.ref l), some (.ref h), some (.int turn), some (.int high), some (.ref pd), some (.int (L : Int)), some (.int (n : Int)), some (.int a), some (.ref b), some (.ref Dl), x10, some (.int (rst (.ref a) ds L j).st), x12, x13, x14, x15, _, _, _, _, _]) ∧ Ex H10 H') (fun H11 e11 => ⟨⟨_, _, _, _, rfl⟩, e11⟩) ?_ ?_
      · rintro j σ' H11 M hM hj ⟨⟨_, _, _, _, rfl⟩, e11⟩ q nq
        have eq11 := Ex.new (o := .tup ((rrow (.ref a) ds L j).map V.int)) nq
        have hday := refill_day (L := L) a0 dd j
        refine ⟨q, [.int (rbak (.ref a) j (rst (.ref a) ds L j)), .int (rsol (.ref a) ds j (rst (.ref a) ds L j)), .int (dem ds j - rsol (.ref a) ds j (rst (.ref a) ds L j)), .int (rlef (.ref a) ds j (rst (.ref a) ds L j) - rnew (.ref a) ds j (rst (.ref a) ds L j))], rfl, st_of upd_same, rfl, _, _, rfl, _, _, rfl, _, _, rfl, _, _, rfl, rfl, ?_⟩
        have hsl : rsol (.ref a) ds j (rst (.ref a) ds L j) ≤ a := by unfold rsol; omega
        have hle : a - rsol (.ref a) ds j (rst (.ref a) ds L j) - (rlef (.ref a) ds j (rst (.ref a) ds L j) - rnew (.ref a) ds j (rst (.ref a) ds L j)) = (rst (.ref a) ds L (j + 1)).st := by
          show _ = rnew (.ref a) ds j (rst (.ref a) ds L j)
          unfold rlef
          omega
        refine q_asg (v := .int a) (Ev.int_eq (ev_op (ev_var rfl) (ev_var rfl) rv_I0) hday) fun H12 e12 => ?_
        refine q_when (b := false) (et_is (et_or (et_test (ev_op (ev_var rfl) (ev_var rfl) rv_I0)) fun _ => et_test (ev_op (ev_var rfl) (ev_var rfl) rv_I0)) (by simp; omega)) (fun hb => nomatch hb) fun _ H13 e13 => ?_
        refine s_asg (Ev.int_eq (ev_op (ev_op (ev_var rfl) (ev_var rfl) rv_I0) (ev_var rfl) rv_I0) hle) fun H14 e14 => ?_
        have e1114 := (eq11.trans e12).trans (e13.trans e14)
        exact ⟨⟨⟨_, _, _, _, rfl⟩, e11.trans e1114⟩, hM _ e1114⟩
      rintro σ' H11 ⟨⟨x12, x13, x14, x15, rfl⟩, e11⟩
      have hs11 := hs10.mono e11
      have w11 : Ex (wn H10 (hl h l)) (wn H11 (hl h l)) := wn_mono e11
      have hc11 := ex_l w11 hc10
      have x11 := x10d.mono w11
      clear hs9 hc9 x9 hs10 hc10 x10d w10 w11 e10 e11
      -- two refill rules
      refine x_par hs11 (x_ru (rk := .ref a) (kind := fun rk => rk = .ref a) (fun G e => er_ref (ea_cons (ev_var rfl) ea_nil) a0 a1) rfl)
        (x_ruI (A := fun g => a ≤ g ∧ g ≤ 1000000000) (kind := fun rk => ∃ g, rk = .ref g ∧ a ≤ g ∧ g ≤ 1000000000) (xi_min (A := fun i => i = 1000000000) (B := fun i => a ≤ i) (xi_ev (Ev.int_eq (ev_op ev_c ev_c (rv_I ⟨by decide, by decide, by decide⟩)) p9) rfl) (xi_op0 (A := fun i => i = a) (B := fun i => 0 ≤ i ∧ i < 9) (xi_ev (ev_var rfl) rfl) (xi_dr (cells := cells) (n := 9) hc11 (fun G => ev_var rfl) (xi_ev ev_c rfl) (by decide) (by decide)) (fun i j q1 q2 => by omega)) (fun i j q1 q2 => by omega)) (fun g q => ⟨by omega, by omega, g, rfl, q⟩)) fun v1 v2 H12 H13 d12 d13 ⟨r1, dx1, k1, ev1, ek1, hR1⟩ ⟨r2, dx2, k2, ev2, ⟨g, ek2, ga, g1⟩, hR2⟩ => ?_
      subst ev1 ev2 ek1 ek2
      have hc13 := ex_l (d12.trans d13).ex hc11
      have x13d := x11.mono (d12.trans d13).ex
      have hs13 := d13.hs
      have hR1' := hR1.mono d13.ex
      have g0 : 0 ≤ g := by omega
      have okG : (RK.ref g).ok := ⟨g0, g1⟩
      clear d12 d13 hc11 x11 hs11 hR1
      refine q_when (b := false) (et_test (ev_is (ev_op (ev_ixNU (v := .int (rcol (.ref g) ds L n 2)) (eu_out (rk := .ref g) (ear_var (fun G => ev_var rfl) (ru_of hR2) (fun G => ev_var rfl) (fun G => ev_var rfl) (fun G => ev_var rfl)) (x13d.mono wn_ex) okG) ev_c rfl) (ev_ixNU (v := .int (rcol (.ref a) ds L n 2)) (eu_out (rk := .ref a) (ear_var (fun G => ev_var rfl) (ru_of hR1') (fun G => ev_var rfl) (fun G => ev_var rfl) (fun G => ev_var rfl)) (x13d.mono wn_ex) okR) ev_c rfl) rv_I0)
        (by rw [decide_eq_false (Int.not_lt.mpr (refill_more (L := L) a0 ga dd n))]))) (fun hb => nomatch hb) fun _ H14 e14 => ?_
      have hs14 := hs13.mono e14
      have w14 : Ex (wn H13 (hl h l)) (wn H14 (hl h l)) := wn_mono e14
      have hc14 := ex_l w14 hc13
      have x14d := x13d.mono w14
      -- a sold rule
      refine q_tup4 (a := rcol (.sol a 1) ds L n 0) (b := rcol (.sol a 1) ds L n 1) (c := rcol (.sol a 1) ds L n 2) (d := rcol (.sol a 1) ds L n 3) (eu_out (rk := .sol a 1) (ear_new (er_sol (ea_cons (ev_var rfl) ea_nil) (ea_cons ev_c ea_nil) a0 a1 (by decide) (by decide)) (fun G => ev_var rfl) (fun G => ev_var rfl) (fun G => ev_var rfl)) (x14d.mono wn_ex) okS) fun H15 e15 => ?_
      have hs15 := hs14.mono e15
      have w15 : Ex (wn H14 (hl h l)) (wn H15 (hl h l)) := wn_mono e15
      have hc15 := ex_l w15 hc14
      have x15d := x14d.mono w15
      refine q_asgW (K := K) (xs := (((List.replicate 200 ds).flatten).take n).map V.int) (ew_eq (ew_take (k := n) (ew_repT (ew_of (ev_var rfl) (st_of (wn_ex _ _ x15d.td))) ev_c (fun z => by have z2 := congrArg List.length z; rw [List.length_map] at z2; exact absurd z2 (by show ds.length ≠ 0; omega)) (by decide) (by decide) (by rw [List.length_map]; omega)) (ev_var rfl)) (by rw [List.map_take, ← flat_map]; rfl)) fun pw H16 e16 hw16 => ?_
      have hbal := balance (rk := .sol a 1) (ds := ds) (L := L) n
      have hcus := customers (rk := .sol a 1) (ds := ds) (L := L) n
      have hst := (rst_nn (L := L) okS dd n).1
      have hwi := wished_sum (ds := ds) (n := n) hn0 (by omega)
      exact s_when (b := false) (et_is (et_or (et_test (ev_op (ev_var rfl) (ev_op (ev_var rfl) (ev_var rfl) rv_I0) rv_I0)) fun _ => et_test (ev_op (ev_op (ev_var rfl) (ev_var rfl) rv_I0) (ev_sumT (ev_var rfl) hw16) (rv_ne rfl))) (by
          have z1 : ¬ rcol (.sol a 1) ds L n 0 < rcol (.sol a 1) ds L n 1 + rcol (.sol a 1) ds L n 3 := by unfold rcol; omega
          have z2 : rcol (.sol a 1) ds L n 1 + rcol (.sol a 1) ds L n 2 = (((List.replicate 200 ds).flatten).take n).sum := by unfold rcol; omega
          rw [z2]
          simp [z1])) (fun hb => nomatch hb) fun _ H17 e17 => ⟨⟨_, _, _, _, _, _, _, _, _, _, _, _, _, _, _, _, _, _, _, rfl⟩, hs15.mono (e16.trans e17), ex_l (wn_mono (e16.trans e17)) hc15⟩
    · obtain ⟨⟨_, _, _, _, _, _, _, _, _, _, _, _, _, _, _, _, _, _, _, rfl⟩, _, _⟩ := q
      exact s_ret ev_c fun H2 _ => k H2
end Sw
namespace Sw
open PySem PySem.Spec PyProof.Rows L2 Evl
theorem all_mk {l : PySem.W.OpenLaw} {w : World} {K : PySem.W.Frag} {h : Heap} {mg : Str → Option Value} {fa c_Course c_Bakery c_Rule c_RefillRule c_SoldRule f_count_keepable f_sum_repeated f_Course___init__ f_Course_stock_at f_Course_sales_on f_Course_sales_before f_Course_find_settled f_Course_sum_settled_round f_Course__play_round f_Course__stocks_in f_Course__misses_in f_Course__count_growing f_check_number f_check_amounts f_check_life f_check_bakery f_Bakery___init__ f_Bakery_sold f_Bakery_missed f_Bakery_thrown f_Bakery_totals f_check_part f_Rule___init__ f_Rule_count_baked f_RefillRule___init__ f_RefillRule_count_baked f_SoldRule___init__ ka_SoldRule___init__ cc_SoldRule___init__ f_SoldRule_count_baked f_run f_outcome f__law_start f__law_drawn f__law_amounts f_law : Addr} (X : K.In h) (G : h.Ns mainGlobals mg) (hfa : mg "law" = some (.ref fa))
    {tk_cv_Bakery_MAX_DAYS : Tok}
    {tk_cv_Bakery_MAX_LIFE : Tok}
    {t_MOST_LOAVES : Tok}
    {t_LAST_DAY : Tok}
    {t_MOST_RULE_DAYS : Tok}
    {od_count_keepable an_count_keepable : Option Addr} {sl_count_keepable : Array (Option Value)} {oc_count_keepable kV_count_keepable dc_count_keepable pm_count_keepable cd_count_keepable ct_count_keepable : Value}
    {od_sum_repeated an_sum_repeated : Option Addr} {sl_sum_repeated : Array (Option Value)} {oc_sum_repeated kV_sum_repeated dc_sum_repeated pm_sum_repeated cd_sum_repeated ct_sum_repeated : Value}
    {od_Course___init__ an_Course___init__ : Option Addr} {sl_Course___init__ : Array (Option Value)} {oc_Course___init__ kV_Course___init__ dc_Course___init__ pm_Course___init__ cd_Course___init__ ct_Course___init__ : Value}
    {od_Course_stock_at an_Course_stock_at : Option Addr} {sl_Course_stock_at : Array (Option Value)} {oc_Course_stock_at kV_Course_stock_at dc_Course_stock_at pm_Course_stock_at cd_Course_stock_at ct_Course_stock_at : Value}
    {od_Course_sales_on an_Course_sales_on : Option Addr} {sl_Course_sales_on : Array (Option Value)} {oc_Course_sales_on kV_Course_sales_on dc_Course_sales_on pm_Course_sales_on cd_Course_sales_on ct_Course_sales_on : Value}
    {od_Course_sales_before an_Course_sales_before : Option Addr} {sl_Course_sales_before : Array (Option Value)} {oc_Course_sales_before kV_Course_sales_before dc_Course_sales_before pm_Course_sales_before cd_Course_sales_before ct_Course_sales_before : Value}
    {od_Course_find_settled an_Course_find_settled : Option Addr} {sl_Course_find_settled : Array (Option Value)} {oc_Course_find_settled kV_Course_find_settled dc_Course_find_settled pm_Course_find_settled cd_Course_find_settled ct_Course_find_settled : Value}
    {od_Course_sum_settled_round an_Course_sum_settled_round : Option Addr} {sl_Course_sum_settled_round : Array (Option Value)} {oc_Course_sum_settled_round kV_Course_sum_settled_round dc_Course_sum_settled_round pm_Course_sum_settled_round cd_Course_sum_settled_round ct_Course_sum_settled_round : Value}
    {od_Course__play_round an_Course__play_round : Option Addr} {sl_Course__play_round : Array (Option Value)} {oc_Course__play_round kV_Course__play_round dc_Course__play_round pm_Course__play_round cd_Course__play_round ct_Course__play_round : Value}
    {od_Course__stocks_in an_Course__stocks_in : Option Addr} {sl_Course__stocks_in : Array (Option Value)} {oc_Course__stocks_in kV_Course__stocks_in dc_Course__stocks_in pm_Course__stocks_in cd_Course__stocks_in ct_Course__stocks_in : Value}
    {od_Course__misses_in an_Course__misses_in : Option Addr} {sl_Course__misses_in : Array (Option Value)} {oc_Course__misses_in kV_Course__misses_in dc_Course__misses_in pm_Course__misses_in cd_Course__misses_in ct_Course__misses_in : Value}
    {od_Course__count_growing an_Course__count_growing : Option Addr} {sl_Course__count_growing : Array (Option Value)} {oc_Course__count_growing kV_Course__count_growing dc_Course__count_growing pm_Course__count_growing cd_Course__count_growing ct_Course__count_growing : Value}
    {od_check_number an_check_number : Option Addr} {sl_check_number : Array (Option Value)} {oc_check_number kV_check_number dc_check_number pm_check_number cd_check_number ct_check_number : Value}
    {od_check_amounts an_check_amounts : Option Addr} {sl_check_amounts : Array (Option Value)} {oc_check_amounts kV_check_amounts dc_check_amounts pm_check_amounts cd_check_amounts ct_check_amounts : Value}
    {od_check_life an_check_life : Option Addr} {sl_check_life : Array (Option Value)} {oc_check_life kV_check_life dc_check_life pm_check_life cd_check_life ct_check_life : Value}
    {od_check_bakery an_check_bakery : Option Addr} {sl_check_bakery : Array (Option Value)} {oc_check_bakery kV_check_bakery dc_check_bakery pm_check_bakery cd_check_bakery ct_check_bakery : Value}
    {od_Bakery___init__ an_Bakery___init__ : Option Addr} {sl_Bakery___init__ : Array (Option Value)} {oc_Bakery___init__ kV_Bakery___init__ dc_Bakery___init__ pm_Bakery___init__ cd_Bakery___init__ ct_Bakery___init__ : Value}
    {od_Bakery_sold an_Bakery_sold : Option Addr} {sl_Bakery_sold : Array (Option Value)} {oc_Bakery_sold kV_Bakery_sold dc_Bakery_sold pm_Bakery_sold cd_Bakery_sold ct_Bakery_sold : Value}
    {od_Bakery_missed an_Bakery_missed : Option Addr} {sl_Bakery_missed : Array (Option Value)} {oc_Bakery_missed kV_Bakery_missed dc_Bakery_missed pm_Bakery_missed cd_Bakery_missed ct_Bakery_missed : Value}
    {od_Bakery_thrown an_Bakery_thrown : Option Addr} {sl_Bakery_thrown : Array (Option Value)} {oc_Bakery_thrown kV_Bakery_thrown dc_Bakery_thrown pm_Bakery_thrown cd_Bakery_thrown ct_Bakery_thrown : Value}
    {od_Bakery_totals an_Bakery_totals : Option Addr} {sl_Bakery_totals : Array (Option Value)} {oc_Bakery_totals kV_Bakery_totals dc_Bakery_totals pm_Bakery_totals cd_Bakery_totals ct_Bakery_totals : Value}
    {od_check_part an_check_part : Option Addr} {sl_check_part : Array (Option Value)} {oc_check_part kV_check_part dc_check_part pm_check_part cd_check_part ct_check_part : Value}
    {od_Rule___init__ an_Rule___init__ : Option Addr} {sl_Rule___init__ : Array (Option Value)} {oc_Rule___init__ kV_Rule___init__ dc_Rule___init__ pm_Rule___init__ cd_Rule___init__ ct_Rule___init__ : Value}
    {od_Rule_count_baked an_Rule_count_baked : Option Addr} {sl_Rule_count_baked : Array (Option Value)} {oc_Rule_count_baked kV_Rule_count_baked dc_Rule_count_baked pm_Rule_count_baked cd_Rule_count_baked ct_Rule_count_baked : Value}
    {od_RefillRule___init__ an_RefillRule___init__ : Option Addr} {sl_RefillRule___init__ : Array (Option Value)} {oc_RefillRule___init__ kV_RefillRule___init__ dc_RefillRule___init__ pm_RefillRule___init__ cd_RefillRule___init__ ct_RefillRule___init__ : Value}
    {od_RefillRule_count_baked an_RefillRule_count_baked : Option Addr} {sl_RefillRule_count_baked : Array (Option Value)} {oc_RefillRule_count_baked kV_RefillRule_count_baked dc_RefillRule_count_baked pm_RefillRule_count_baked cd_RefillRule_count_baked ct_RefillRule_count_baked : Value}
    {od_SoldRule___init__ an_SoldRule___init__ : Option Addr} {sl_SoldRule___init__ : Array (Option Value)} {oc_SoldRule___init__ kV_SoldRule___init__ dc_SoldRule___init__ pm_SoldRule___init__ ct_SoldRule___init__ : Value}
    {oe_SoldRule___init__ ol_SoldRule___init__ : Value} {oo_SoldRule___init__ om_SoldRule___init__ : Option Addr} {vc_SoldRule___init__ : Array Value} {os_SoldRule___init__ ot_SoldRule___init__ : Array (Option Value)} {file_SoldRule___init__ : Str} {tf_SoldRule___init__ : Tok}
    {od_SoldRule_count_baked an_SoldRule_count_baked : Option Addr} {sl_SoldRule_count_baked : Array (Option Value)} {oc_SoldRule_count_baked kV_SoldRule_count_baked dc_SoldRule_count_baked pm_SoldRule_count_baked cd_SoldRule_count_baked ct_SoldRule_count_baked : Value}
    {od_run an_run : Option Addr} {sl_run : Array (Option Value)} {oc_run kV_run dc_run pm_run cd_run ct_run : Value}
    {od_outcome an_outcome : Option Addr} {sl_outcome : Array (Option Value)} {oc_outcome kV_outcome dc_outcome pm_outcome cd_outcome ct_outcome : Value}
    {od__law_start an__law_start : Option Addr} {sl__law_start : Array (Option Value)} {oc__law_start kV__law_start dc__law_start pm__law_start cd__law_start ct__law_start : Value}
    {od__law_drawn an__law_drawn : Option Addr} {sl__law_drawn : Array (Option Value)} {oc__law_drawn kV__law_drawn dc__law_drawn pm__law_drawn cd__law_drawn ct__law_drawn : Value}
    {od__law_amounts an__law_amounts : Option Addr} {sl__law_amounts : Array (Option Value)} {oc__law_amounts kV__law_amounts dc__law_amounts pm__law_amounts cd__law_amounts ct__law_amounts : Value}
    {od_law an_law : Option Addr} {sl_law : Array (Option Value)} {oc_law kV_law dc_law pm_law cd_law ct_law : Value}
    (g_Course : PySem.W.nsIn K mainGlobals "Course" = some (some (.ref c_Course)))
    (pg_Course : PySem.W.plainGet K c_Course Str.empty = true)
    (hd_Course : PySem.W.hasDictIn K c_Course = true)
    (po_Course : PySem.W.plainOver K c_Course = true)
    (sa_Course : PySem.W.findIn K (.ref c_Course) "__setattr__" = some (some (.builtin "object.__setattr__")))
    (mk_Course : PySem.W.makesIn K c_Course = true)
    (kc_Course : PySem.W.keepIn K (.ref c_Course) = true)
    (g_Bakery : PySem.W.nsIn K mainGlobals "Bakery" = some (some (.ref c_Bakery)))
    (pg_Bakery : PySem.W.plainGet K c_Bakery Str.empty = true)
    (hd_Bakery : PySem.W.hasDictIn K c_Bakery = true)
    (po_Bakery : PySem.W.plainOver K c_Bakery = true)
    (sa_Bakery : PySem.W.findIn K (.ref c_Bakery) "__setattr__" = some (some (.builtin "object.__setattr__")))
    (mk_Bakery : PySem.W.makesIn K c_Bakery = true)
    (kc_Bakery : PySem.W.keepIn K (.ref c_Bakery) = true)
    (g_Rule : PySem.W.nsIn K mainGlobals "Rule" = some (some (.ref c_Rule)))
    (pg_Rule : PySem.W.plainGet K c_Rule Str.empty = true)
    (hd_Rule : PySem.W.hasDictIn K c_Rule = true)
    (po_Rule : PySem.W.plainOver K c_Rule = true)
    (sa_Rule : PySem.W.findIn K (.ref c_Rule) "__setattr__" = some (some (.builtin "object.__setattr__")))
    (mk_Rule : PySem.W.makesIn K c_Rule = true)
    (kc_Rule : PySem.W.keepIn K (.ref c_Rule) = true)
    (g_RefillRule : PySem.W.nsIn K mainGlobals "RefillRule" = some (some (.ref c_RefillRule)))
    (pg_RefillRule : PySem.W.plainGet K c_RefillRule Str.empty = true)
    (hd_RefillRule : PySem.W.hasDictIn K c_RefillRule = true)
    (po_RefillRule : PySem.W.plainOver K c_RefillRule = true)
    (sa_RefillRule : PySem.W.findIn K (.ref c_RefillRule) "__setattr__" = some (some (.builtin "object.__setattr__")))
    (mk_RefillRule : PySem.W.makesIn K c_RefillRule = true)
    (kc_RefillRule : PySem.W.keepIn K (.ref c_RefillRule) = true)
    (g_SoldRule : PySem.W.nsIn K mainGlobals "SoldRule" = some (some (.ref c_SoldRule)))
    (pg_SoldRule : PySem.W.plainGet K c_SoldRule Str.empty = true)
    (hd_SoldRule : PySem.W.hasDictIn K c_SoldRule = true)
    (po_SoldRule : PySem.W.plainOver K c_SoldRule = true)
    (sa_SoldRule : PySem.W.findIn K (.ref c_SoldRule) "__setattr__" = some (some (.builtin "object.__setattr__")))
    (mk_SoldRule : PySem.W.makesIn K c_SoldRule = true)
    (kc_SoldRule : PySem.W.keepIn K (.ref c_SoldRule) = true)
    (na_Course__bakes : PySem.W.findIn K (.ref c_Course) "_bakes" = some none)
    (na_Course__demands : PySem.W.findIn K (.ref c_Course) "_demands" = some none)
    (na_Course__keepable : PySem.W.findIn K (.ref c_Course) "_keepable" = some none)
    (na_Course__gain : PySem.W.findIn K (.ref c_Course) "_gain" = some none)
    (na_Course__first_end : PySem.W.findIn K (.ref c_Course) "_first_end" = some none)
    (na_Course__full_end : PySem.W.findIn K (.ref c_Course) "_full_end" = some none)
    (na_Course__first_misses : PySem.W.findIn K (.ref c_Course) "_first_misses" = some none)
    (na_Course__later_misses : PySem.W.findIn K (.ref c_Course) "_later_misses" = some none)
    (na_Bakery__bakes : PySem.W.findIn K (.ref c_Bakery) "_bakes" = some none)
    (na_Bakery__demands : PySem.W.findIn K (.ref c_Bakery) "_demands" = some none)
    (na_Bakery__life : PySem.W.findIn K (.ref c_Bakery) "_life" = some none)
    (na_Bakery_course : PySem.W.findIn K (.ref c_Bakery) "course" = some none)
    (na_Bakery__settled_day : PySem.W.findIn K (.ref c_Bakery) "_settled_day" = some none)
    (na_Bakery__long_run : PySem.W.findIn K (.ref c_Bakery) "_long_run" = some none)
    (rd_Bakery : PySem.W.readsIn K c_Bakery (.type "type") = true)
    (gt_Bakery : PySem.W.specialIn K (.ref c_Bakery) "__getattribute__" = some (some (.builtin "type.__getattribute__")))
    (cv_Bakery_MAX_DAYS : PySem.W.findCls K (.ref c_Bakery) (.type "type") "MAX_DAYS" = some (.val (.int 24 tk_cv_Bakery_MAX_DAYS)))
    (cv_Bakery_MAX_LIFE : PySem.W.findCls K (.ref c_Bakery) (.type "type") "MAX_LIFE" = some (.val (.int 30 tk_cv_Bakery_MAX_LIFE)))
    (na_Rule__amount : PySem.W.findIn K (.ref c_Rule) "_amount" = some none)
    (na_RefillRule__goal : PySem.W.findIn K (.ref c_RefillRule) "_goal" = some none)
    (na_SoldRule__more : PySem.W.findIn K (.ref c_SoldRule) "_more" = some none)
    (na_SoldRule__amount : PySem.W.findIn K (.ref c_SoldRule) "_amount" = some none)
    (g_MOST_LOAVES : PySem.W.nsIn K mainGlobals "MOST_LOAVES" = some (some (.int 1000000000 t_MOST_LOAVES)))
    (g_LAST_DAY : PySem.W.nsIn K mainGlobals "LAST_DAY" = some (some (.int 1000000000000000000 t_LAST_DAY)))
    (g_MOST_RULE_DAYS : PySem.W.nsIn K mainGlobals "MOST_RULE_DAYS" = some (some (.int 10000 t_MOST_RULE_DAYS)))
    (b_divmod : PySem.W.nsIn K mainGlobals "divmod" = some none)
    (b_enumerate : PySem.W.nsIn K mainGlobals "enumerate" = some none)
    (b_int : PySem.W.nsIn K mainGlobals "int" = some none)
    (b_len : PySem.W.nsIn K mainGlobals "len" = some none)
    (b_max : PySem.W.nsIn K mainGlobals "max" = some none)
    (b_min : PySem.W.nsIn K mainGlobals "min" = some none)
    (b_range : PySem.W.nsIn K mainGlobals "range" = some none)
    (b_sum : PySem.W.nsIn K mainGlobals "sum" = some none)
    (b_super : PySem.W.nsIn K mainGlobals "super" = some none)
    (b_tuple : PySem.W.nsIn K mainGlobals "tuple" = some none)
    (b_zip : PySem.W.nsIn K mainGlobals "zip" = some none)
    (zu_any : PySem.W.nsIn K cStatics "thirdparty.any" = some none)
    (zu_top : (l.prog.main.scope.names.lookup ("super" : Str)).isSome = false)
    (a_count_keepable : PySem.W.nsIn K mainGlobals "count_keepable" = some (some (.ref f_count_keepable)))
    (l_count_keepable : K.lookup f_count_keepable = some ⟨oc_count_keepable, od_count_keepable, .func (PySem.W.fnOf "count_keepable" "count_keepable" (defArgs s_count_keepable) (defBody s_count_keepable) (defScope s_count_keepable) .none kV_count_keepable dc_count_keepable pm_count_keepable an_count_keepable cd_count_keepable ct_count_keepable), sl_count_keepable⟩)
    (q_count_keepable : PySem.W.codeIn K cd_count_keepable "count_keepable" = true)
    (k_count_keepable : PySem.W.keepIn K (.ref f_count_keepable) = true)
    (a_sum_repeated : PySem.W.nsIn K mainGlobals "sum_repeated" = some (some (.ref f_sum_repeated)))
    (l_sum_repeated : K.lookup f_sum_repeated = some ⟨oc_sum_repeated, od_sum_repeated, .func (PySem.W.fnOf "sum_repeated" "sum_repeated" (defArgs s_sum_repeated) (defBody s_sum_repeated) (defScope s_sum_repeated) .none kV_sum_repeated dc_sum_repeated pm_sum_repeated an_sum_repeated cd_sum_repeated ct_sum_repeated), sl_sum_repeated⟩)
    (q_sum_repeated : PySem.W.codeIn K cd_sum_repeated "sum_repeated" = true)
    (k_sum_repeated : PySem.W.keepIn K (.ref f_sum_repeated) = true)
    (a_Course___init__ : PySem.W.findIn K (.ref c_Course) "__init__" = some (some (.ref f_Course___init__)))
    (i_Course___init__ : PySem.W.isFn K (.ref f_Course___init__) = true)
    (l_Course___init__ : K.lookup f_Course___init__ = some ⟨oc_Course___init__, od_Course___init__, .func (PySem.W.fnOf "__init__" "Course.__init__" (defArgs s_Course___init__) (defBody s_Course___init__) (defScope s_Course___init__) .none kV_Course___init__ dc_Course___init__ pm_Course___init__ an_Course___init__ cd_Course___init__ ct_Course___init__), sl_Course___init__⟩)
    (q_Course___init__ : PySem.W.codeIn K cd_Course___init__ "Course.__init__" = true)
    (k_Course___init__ : PySem.W.keepIn K (.ref f_Course___init__) = true)
    (a_Course_stock_at : PySem.W.findIn K (.ref c_Course) "stock_at" = some (some (.ref f_Course_stock_at)))
    (i_Course_stock_at : PySem.W.isFn K (.ref f_Course_stock_at) = true)
    (l_Course_stock_at : K.lookup f_Course_stock_at = some ⟨oc_Course_stock_at, od_Course_stock_at, .func (PySem.W.fnOf "stock_at" "Course.stock_at" (defArgs s_Course_stock_at) (defBody s_Course_stock_at) (defScope s_Course_stock_at) .none kV_Course_stock_at dc_Course_stock_at pm_Course_stock_at an_Course_stock_at cd_Course_stock_at ct_Course_stock_at), sl_Course_stock_at⟩)
    (q_Course_stock_at : PySem.W.codeIn K cd_Course_stock_at "Course.stock_at" = true)
    (k_Course_stock_at : PySem.W.keepIn K (.ref f_Course_stock_at) = true)
    (a_Course_sales_on : PySem.W.findIn K (.ref c_Course) "sales_on" = some (some (.ref f_Course_sales_on)))
    (i_Course_sales_on : PySem.W.isFn K (.ref f_Course_sales_on) = true)
    (l_Course_sales_on : K.lookup f_Course_sales_on = some ⟨oc_Course_sales_on, od_Course_sales_on, .func (PySem.W.fnOf "sales_on" "Course.sales_on" (defArgs s_Course_sales_on) (defBody s_Course_sales_on) (defScope s_Course_sales_on) .none kV_Course_sales_on dc_Course_sales_on pm_Course_sales_on an_Course_sales_on cd_Course_sales_on ct_Course_sales_on), sl_Course_sales_on⟩)
    (q_Course_sales_on : PySem.W.codeIn K cd_Course_sales_on "Course.sales_on" = true)
    (k_Course_sales_on : PySem.W.keepIn K (.ref f_Course_sales_on) = true)
    (a_Course_sales_before : PySem.W.findIn K (.ref c_Course) "sales_before" = some (some (.ref f_Course_sales_before)))
    (i_Course_sales_before : PySem.W.isFn K (.ref f_Course_sales_before) = true)
    (l_Course_sales_before : K.lookup f_Course_sales_before = some ⟨oc_Course_sales_before, od_Course_sales_before, .func (PySem.W.fnOf "sales_before" "Course.sales_before" (defArgs s_Course_sales_before) (defBody s_Course_sales_before) (defScope s_Course_sales_before) .none kV_Course_sales_before dc_Course_sales_before pm_Course_sales_before an_Course_sales_before cd_Course_sales_before ct_Course_sales_before), sl_Course_sales_before⟩)
    (q_Course_sales_before : PySem.W.codeIn K cd_Course_sales_before "Course.sales_before" = true)
    (k_Course_sales_before : PySem.W.keepIn K (.ref f_Course_sales_before) = true)
    (a_Course_find_settled : PySem.W.findIn K (.ref c_Course) "find_settled" = some (some (.ref f_Course_find_settled)))
    (i_Course_find_settled : PySem.W.isFn K (.ref f_Course_find_settled) = true)
    (l_Course_find_settled : K.lookup f_Course_find_settled = some ⟨oc_Course_find_settled, od_Course_find_settled, .func (PySem.W.fnOf "find_settled" "Course.find_settled" (defArgs s_Course_find_settled) (defBody s_Course_find_settled) (defScope s_Course_find_settled) .none kV_Course_find_settled dc_Course_find_settled pm_Course_find_settled an_Course_find_settled cd_Course_find_settled ct_Course_find_settled), sl_Course_find_settled⟩)
    (q_Course_find_settled : PySem.W.codeIn K cd_Course_find_settled "Course.find_settled" = true)
    (k_Course_find_settled : PySem.W.keepIn K (.ref f_Course_find_settled) = true)
    (a_Course_sum_settled_round : PySem.W.findIn K (.ref c_Course) "sum_settled_round" = some (some (.ref f_Course_sum_settled_round)))
    (i_Course_sum_settled_round : PySem.W.isFn K (.ref f_Course_sum_settled_round) = true)
    (l_Course_sum_settled_round : K.lookup f_Course_sum_settled_round = some ⟨oc_Course_sum_settled_round, od_Course_sum_settled_round, .func (PySem.W.fnOf "sum_settled_round" "Course.sum_settled_round" (defArgs s_Course_sum_settled_round) (defBody s_Course_sum_settled_round) (defScope s_Course_sum_settled_round) .none kV_Course_sum_settled_round dc_Course_sum_settled_round pm_Course_sum_settled_round an_Course_sum_settled_round cd_Course_sum_settled_round ct_Course_sum_settled_round), sl_Course_sum_settled_round⟩)
    (q_Course_sum_settled_round : PySem.W.codeIn K cd_Course_sum_settled_round "Course.sum_settled_round" = true)
    (k_Course_sum_settled_round : PySem.W.keepIn K (.ref f_Course_sum_settled_round) = true)
    (a_Course__play_round : PySem.W.findIn K (.ref c_Course) "_play_round" = some (some (.ref f_Course__play_round)))
    (i_Course__play_round : PySem.W.isFn K (.ref f_Course__play_round) = true)
    (l_Course__play_round : K.lookup f_Course__play_round = some ⟨oc_Course__play_round, od_Course__play_round, .func (PySem.W.fnOf "_play_round" "Course._play_round" (defArgs s_Course__play_round) (defBody s_Course__play_round) (defScope s_Course__play_round) .none kV_Course__play_round dc_Course__play_round pm_Course__play_round an_Course__play_round cd_Course__play_round ct_Course__play_round), sl_Course__play_round⟩)
    (q_Course__play_round : PySem.W.codeIn K cd_Course__play_round "Course._play_round" = true)
    (k_Course__play_round : PySem.W.keepIn K (.ref f_Course__play_round) = true)
    (a_Course__stocks_in : PySem.W.findIn K (.ref c_Course) "_stocks_in" = some (some (.ref f_Course__stocks_in)))
    (i_Course__stocks_in : PySem.W.isFn K (.ref f_Course__stocks_in) = true)
    (l_Course__stocks_in : K.lookup f_Course__stocks_in = some ⟨oc_Course__stocks_in, od_Course__stocks_in, .func (PySem.W.fnOf "_stocks_in" "Course._stocks_in" (defArgs s_Course__stocks_in) (defBody s_Course__stocks_in) (defScope s_Course__stocks_in) .none kV_Course__stocks_in dc_Course__stocks_in pm_Course__stocks_in an_Course__stocks_in cd_Course__stocks_in ct_Course__stocks_in), sl_Course__stocks_in⟩)
    (q_Course__stocks_in : PySem.W.codeIn K cd_Course__stocks_in "Course._stocks_in" = true)
    (k_Course__stocks_in : PySem.W.keepIn K (.ref f_Course__stocks_in) = true)
    (a_Course__misses_in : PySem.W.findIn K (.ref c_Course) "_misses_in" = some (some (.ref f_Course__misses_in)))
    (i_Course__misses_in : PySem.W.isFn K (.ref f_Course__misses_in) = true)
    (l_Course__misses_in : K.lookup f_Course__misses_in = some ⟨oc_Course__misses_in, od_Course__misses_in, .func (PySem.W.fnOf "_misses_in" "Course._misses_in" (defArgs s_Course__misses_in) (defBody s_Course__misses_in) (defScope s_Course__misses_in) .none kV_Course__misses_in dc_Course__misses_in pm_Course__misses_in an_Course__misses_in cd_Course__misses_in ct_Course__misses_in), sl_Course__misses_in⟩)
    (q_Course__misses_in : PySem.W.codeIn K cd_Course__misses_in "Course._misses_in" = true)
    (k_Course__misses_in : PySem.W.keepIn K (.ref f_Course__misses_in) = true)
    (a_Course__count_growing : PySem.W.findIn K (.ref c_Course) "_count_growing" = some (some (.ref f_Course__count_growing)))
    (i_Course__count_growing : PySem.W.isFn K (.ref f_Course__count_growing) = true)
    (l_Course__count_growing : K.lookup f_Course__count_growing = some ⟨oc_Course__count_growing, od_Course__count_growing, .func (PySem.W.fnOf "_count_growing" "Course._count_growing" (defArgs s_Course__count_growing) (defBody s_Course__count_growing) (defScope s_Course__count_growing) .none kV_Course__count_growing dc_Course__count_growing pm_Course__count_growing an_Course__count_growing cd_Course__count_growing ct_Course__count_growing), sl_Course__count_growing⟩)
    (q_Course__count_growing : PySem.W.codeIn K cd_Course__count_growing "Course._count_growing" = true)
    (k_Course__count_growing : PySem.W.keepIn K (.ref f_Course__count_growing) = true)
    (a_check_number : PySem.W.nsIn K mainGlobals "check_number" = some (some (.ref f_check_number)))
    (l_check_number : K.lookup f_check_number = some ⟨oc_check_number, od_check_number, .func (PySem.W.fnOf "check_number" "check_number" (defArgs s_check_number) (defBody s_check_number) (defScope s_check_number) .none kV_check_number dc_check_number pm_check_number an_check_number cd_check_number ct_check_number), sl_check_number⟩)
    (q_check_number : PySem.W.codeIn K cd_check_number "check_number" = true)
    (k_check_number : PySem.W.keepIn K (.ref f_check_number) = true)
    (a_check_amounts : PySem.W.nsIn K mainGlobals "check_amounts" = some (some (.ref f_check_amounts)))
    (l_check_amounts : K.lookup f_check_amounts = some ⟨oc_check_amounts, od_check_amounts, .func (PySem.W.fnOf "check_amounts" "check_amounts" (defArgs s_check_amounts) (defBody s_check_amounts) (defScope s_check_amounts) .none kV_check_amounts dc_check_amounts pm_check_amounts an_check_amounts cd_check_amounts ct_check_amounts), sl_check_amounts⟩)
    (q_check_amounts : PySem.W.codeIn K cd_check_amounts "check_amounts" = true)
    (k_check_amounts : PySem.W.keepIn K (.ref f_check_amounts) = true)
    (a_check_life : PySem.W.nsIn K mainGlobals "check_life" = some (some (.ref f_check_life)))
    (l_check_life : K.lookup f_check_life = some ⟨oc_check_life, od_check_life, .func (PySem.W.fnOf "check_life" "check_life" (defArgs s_check_life) (defBody s_check_life) (defScope s_check_life) .none kV_check_life dc_check_life pm_check_life an_check_life cd_check_life ct_check_life), sl_check_life⟩)
    (q_check_life : PySem.W.codeIn K cd_check_life "check_life" = true)
    (k_check_life : PySem.W.keepIn K (.ref f_check_life) = true)
    (a_check_bakery : PySem.W.nsIn K mainGlobals "check_bakery" = some (some (.ref f_check_bakery)))
    (l_check_bakery : K.lookup f_check_bakery = some ⟨oc_check_bakery, od_check_bakery, .func (PySem.W.fnOf "check_bakery" "check_bakery" (defArgs s_check_bakery) (defBody s_check_bakery) (defScope s_check_bakery) .none kV_check_bakery dc_check_bakery pm_check_bakery an_check_bakery cd_check_bakery ct_check_bakery), sl_check_bakery⟩)
    (q_check_bakery : PySem.W.codeIn K cd_check_bakery "check_bakery" = true)
    (k_check_bakery : PySem.W.keepIn K (.ref f_check_bakery) = true)
    (a_Bakery___init__ : PySem.W.findIn K (.ref c_Bakery) "__init__" = some (some (.ref f_Bakery___init__)))
    (i_Bakery___init__ : PySem.W.isFn K (.ref f_Bakery___init__) = true)
    (l_Bakery___init__ : K.lookup f_Bakery___init__ = some ⟨oc_Bakery___init__, od_Bakery___init__, .func (PySem.W.fnOf "__init__" "Bakery.__init__" (defArgs s_Bakery___init__) (defBody s_Bakery___init__) (defScope s_Bakery___init__) .none kV_Bakery___init__ dc_Bakery___init__ pm_Bakery___init__ an_Bakery___init__ cd_Bakery___init__ ct_Bakery___init__), sl_Bakery___init__⟩)
    (q_Bakery___init__ : PySem.W.codeIn K cd_Bakery___init__ "Bakery.__init__" = true)
    (k_Bakery___init__ : PySem.W.keepIn K (.ref f_Bakery___init__) = true)
    (a_Bakery_sold : PySem.W.findIn K (.ref c_Bakery) "sold" = some (some (.ref f_Bakery_sold)))
    (i_Bakery_sold : PySem.W.isFn K (.ref f_Bakery_sold) = true)
    (l_Bakery_sold : K.lookup f_Bakery_sold = some ⟨oc_Bakery_sold, od_Bakery_sold, .func (PySem.W.fnOf "sold" "Bakery.sold" (defArgs s_Bakery_sold) (defBody s_Bakery_sold) (defScope s_Bakery_sold) .none kV_Bakery_sold dc_Bakery_sold pm_Bakery_sold an_Bakery_sold cd_Bakery_sold ct_Bakery_sold), sl_Bakery_sold⟩)
    (q_Bakery_sold : PySem.W.codeIn K cd_Bakery_sold "Bakery.sold" = true)
    (k_Bakery_sold : PySem.W.keepIn K (.ref f_Bakery_sold) = true)
    (a_Bakery_missed : PySem.W.findIn K (.ref c_Bakery) "missed" = some (some (.ref f_Bakery_missed)))
    (i_Bakery_missed : PySem.W.isFn K (.ref f_Bakery_missed) = true)
    (l_Bakery_missed : K.lookup f_Bakery_missed = some ⟨oc_Bakery_missed, od_Bakery_missed, .func (PySem.W.fnOf "missed" "Bakery.missed" (defArgs s_Bakery_missed) (defBody s_Bakery_missed) (defScope s_Bakery_missed) .none kV_Bakery_missed dc_Bakery_missed pm_Bakery_missed an_Bakery_missed cd_Bakery_missed ct_Bakery_missed), sl_Bakery_missed⟩)
    (q_Bakery_missed : PySem.W.codeIn K cd_Bakery_missed "Bakery.missed" = true)
    (k_Bakery_missed : PySem.W.keepIn K (.ref f_Bakery_missed) = true)
    (a_Bakery_thrown : PySem.W.findIn K (.ref c_Bakery) "thrown" = some (some (.ref f_Bakery_thrown)))
    (i_Bakery_thrown : PySem.W.isFn K (.ref f_Bakery_thrown) = true)
    (l_Bakery_thrown : K.lookup f_Bakery_thrown = some ⟨oc_Bakery_thrown, od_Bakery_thrown, .func (PySem.W.fnOf "thrown" "Bakery.thrown" (defArgs s_Bakery_thrown) (defBody s_Bakery_thrown) (defScope s_Bakery_thrown) .none kV_Bakery_thrown dc_Bakery_thrown pm_Bakery_thrown an_Bakery_thrown cd_Bakery_thrown ct_Bakery_thrown), sl_Bakery_thrown⟩)
    (q_Bakery_thrown : PySem.W.codeIn K cd_Bakery_thrown "Bakery.thrown" = true)
    (k_Bakery_thrown : PySem.W.keepIn K (.ref f_Bakery_thrown) = true)
    (a_Bakery_totals : PySem.W.findIn K (.ref c_Bakery) "totals" = some (some (.ref f_Bakery_totals)))
    (i_Bakery_totals : PySem.W.isFn K (.ref f_Bakery_totals) = true)
    (l_Bakery_totals : K.lookup f_Bakery_totals = some ⟨oc_Bakery_totals, od_Bakery_totals, .func (PySem.W.fnOf "totals" "Bakery.totals" (defArgs s_Bakery_totals) (defBody s_Bakery_totals) (defScope s_Bakery_totals) .none kV_Bakery_totals dc_Bakery_totals pm_Bakery_totals an_Bakery_totals cd_Bakery_totals ct_Bakery_totals), sl_Bakery_totals⟩)
    (q_Bakery_totals : PySem.W.codeIn K cd_Bakery_totals "Bakery.totals" = true)
    (k_Bakery_totals : PySem.W.keepIn K (.ref f_Bakery_totals) = true)
    (a_check_part : PySem.W.nsIn K mainGlobals "check_part" = some (some (.ref f_check_part)))
    (l_check_part : K.lookup f_check_part = some ⟨oc_check_part, od_check_part, .func (PySem.W.fnOf "check_part" "check_part" (defArgs s_check_part) (defBody s_check_part) (defScope s_check_part) .none kV_check_part dc_check_part pm_check_part an_check_part cd_check_part ct_check_part), sl_check_part⟩)
    (q_check_part : PySem.W.codeIn K cd_check_part "check_part" = true)
    (k_check_part : PySem.W.keepIn K (.ref f_check_part) = true)
    (a_Rule___init__ : PySem.W.findIn K (.ref c_Rule) "__init__" = some (some (.ref f_Rule___init__)))
    (i_Rule___init__ : PySem.W.isFn K (.ref f_Rule___init__) = true)
    (l_Rule___init__ : K.lookup f_Rule___init__ = some ⟨oc_Rule___init__, od_Rule___init__, .func (PySem.W.fnOf "__init__" "Rule.__init__" (defArgs s_Rule___init__) (defBody s_Rule___init__) (defScope s_Rule___init__) .none kV_Rule___init__ dc_Rule___init__ pm_Rule___init__ an_Rule___init__ cd_Rule___init__ ct_Rule___init__), sl_Rule___init__⟩)
    (q_Rule___init__ : PySem.W.codeIn K cd_Rule___init__ "Rule.__init__" = true)
    (k_Rule___init__ : PySem.W.keepIn K (.ref f_Rule___init__) = true)
    (a_Rule_count_baked : PySem.W.findIn K (.ref c_Rule) "count_baked" = some (some (.ref f_Rule_count_baked)))
    (i_Rule_count_baked : PySem.W.isFn K (.ref f_Rule_count_baked) = true)
    (l_Rule_count_baked : K.lookup f_Rule_count_baked = some ⟨oc_Rule_count_baked, od_Rule_count_baked, .func (PySem.W.fnOf "count_baked" "Rule.count_baked" (defArgs s_Rule_count_baked) (defBody s_Rule_count_baked) (defScope s_Rule_count_baked) .none kV_Rule_count_baked dc_Rule_count_baked pm_Rule_count_baked an_Rule_count_baked cd_Rule_count_baked ct_Rule_count_baked), sl_Rule_count_baked⟩)
    (q_Rule_count_baked : PySem.W.codeIn K cd_Rule_count_baked "Rule.count_baked" = true)
    (k_Rule_count_baked : PySem.W.keepIn K (.ref f_Rule_count_baked) = true)
    (a_RefillRule___init__ : PySem.W.findIn K (.ref c_RefillRule) "__init__" = some (some (.ref f_RefillRule___init__)))
    (i_RefillRule___init__ : PySem.W.isFn K (.ref f_RefillRule___init__) = true)
    (l_RefillRule___init__ : K.lookup f_RefillRule___init__ = some ⟨oc_RefillRule___init__, od_RefillRule___init__, .func (PySem.W.fnOf "__init__" "RefillRule.__init__" (defArgs s_RefillRule___init__) (defBody s_RefillRule___init__) (defScope s_RefillRule___init__) .none kV_RefillRule___init__ dc_RefillRule___init__ pm_RefillRule___init__ an_RefillRule___init__ cd_RefillRule___init__ ct_RefillRule___init__), sl_RefillRule___init__⟩)
    (q_RefillRule___init__ : PySem.W.codeIn K cd_RefillRule___init__ "RefillRule.__init__" = true)
    (k_RefillRule___init__ : PySem.W.keepIn K (.ref f_RefillRule___init__) = true)
    (a_RefillRule_count_baked : PySem.W.findIn K (.ref c_RefillRule) "count_baked" = some (some (.ref f_RefillRule_count_baked)))
    (i_RefillRule_count_baked : PySem.W.isFn K (.ref f_RefillRule_count_baked) = true)
    (l_RefillRule_count_baked : K.lookup f_RefillRule_count_baked = some ⟨oc_RefillRule_count_baked, od_RefillRule_count_baked, .func (PySem.W.fnOf "count_baked" "RefillRule.count_baked" (defArgs s_RefillRule_count_baked) (defBody s_RefillRule_count_baked) (defScope s_RefillRule_count_baked) .none kV_RefillRule_count_baked dc_RefillRule_count_baked pm_RefillRule_count_baked an_RefillRule_count_baked cd_RefillRule_count_baked ct_RefillRule_count_baked), sl_RefillRule_count_baked⟩)
    (q_RefillRule_count_baked : PySem.W.codeIn K cd_RefillRule_count_baked "RefillRule.count_baked" = true)
    (k_RefillRule_count_baked : PySem.W.keepIn K (.ref f_RefillRule_count_baked) = true)
    (a_SoldRule___init__ : PySem.W.findIn K (.ref c_SoldRule) "__init__" = some (some (.ref f_SoldRule___init__)))
    (i_SoldRule___init__ : PySem.W.isFn K (.ref f_SoldRule___init__) = true)
    (l_SoldRule___init__ : K.lookup f_SoldRule___init__ = some ⟨oc_SoldRule___init__, od_SoldRule___init__, .func (PySem.W.ksFn "__init__" "SoldRule.__init__" (defArgs s_SoldRule___init__) (defBody s_SoldRule___init__) (defScope s_SoldRule___init__) .none kV_SoldRule___init__ dc_SoldRule___init__ pm_SoldRule___init__ an_SoldRule___init__ (.ref ka_SoldRule___init__) ct_SoldRule___init__ cc_SoldRule___init__), sl_SoldRule___init__⟩)
    (q_SoldRule___init__ : PySem.W.codeIn K (.ref ka_SoldRule___init__) "SoldRule.__init__" = true)
    (lk_SoldRule___init__ : K.lookup ka_SoldRule___init__ = some ⟨oe_SoldRule___init__, oo_SoldRule___init__, .fields vc_SoldRule___init__, os_SoldRule___init__⟩)
    (vf_SoldRule___init__ : vc_SoldRule___init__[2]? = some (.str file_SoldRule___init__ tf_SoldRule___init__))
    (fi_SoldRule___init__ : ((l.prog.main.file : Str) == file_SoldRule___init__) = true)
    (ce_SoldRule___init__ : K.lookup cc_SoldRule___init__ = some ⟨ol_SoldRule___init__, om_SoldRule___init__, .cell (some (.ref c_SoldRule)), ot_SoldRule___init__⟩)
    (sp_SoldRule___init__ : PySem.W.ks_superIn K c_SoldRule c_SoldRule "__init__" = some (some (.ref f_Rule___init__)))
    (sy_SoldRule___init__ : PySem.W.typeIn K (.ref f_Rule___init__) = some (.type "function"))
    (sf_SoldRule___init__ : PySem.W.fnIn K f_Rule___init__ = true)
    (sb_SoldRule___init__ : PySem.W.mroIn K c_SoldRule (.ref c_SoldRule) = some true)
    (sc_SoldRule : PySem.W.isClsIn K c_SoldRule = true)
    (a_SoldRule_count_baked : PySem.W.findIn K (.ref c_SoldRule) "count_baked" = some (some (.ref f_SoldRule_count_baked)))
    (i_SoldRule_count_baked : PySem.W.isFn K (.ref f_SoldRule_count_baked) = true)
    (l_SoldRule_count_baked : K.lookup f_SoldRule_count_baked = some ⟨oc_SoldRule_count_baked, od_SoldRule_count_baked, .func (PySem.W.fnOf "count_baked" "SoldRule.count_baked" (defArgs s_SoldRule_count_baked) (defBody s_SoldRule_count_baked) (defScope s_SoldRule_count_baked) .none kV_SoldRule_count_baked dc_SoldRule_count_baked pm_SoldRule_count_baked an_SoldRule_count_baked cd_SoldRule_count_baked ct_SoldRule_count_baked), sl_SoldRule_count_baked⟩)
    (q_SoldRule_count_baked : PySem.W.codeIn K cd_SoldRule_count_baked "SoldRule.count_baked" = true)
    (k_SoldRule_count_baked : PySem.W.keepIn K (.ref f_SoldRule_count_baked) = true)
    (a_run : PySem.W.nsIn K mainGlobals "run" = some (some (.ref f_run)))
    (l_run : K.lookup f_run = some ⟨oc_run, od_run, .func (PySem.W.fnOf "run" "run" (defArgs s_run) (defBody s_run) (defScope s_run) .none kV_run dc_run pm_run an_run cd_run ct_run), sl_run⟩)
    (q_run : PySem.W.codeIn K cd_run "run" = true)
    (k_run : PySem.W.keepIn K (.ref f_run) = true)
    (a_outcome : PySem.W.nsIn K mainGlobals "outcome" = some (some (.ref f_outcome)))
    (l_outcome : K.lookup f_outcome = some ⟨oc_outcome, od_outcome, .func (PySem.W.fnOf "outcome" "outcome" (defArgs s_outcome) (defBody s_outcome) (defScope s_outcome) .none kV_outcome dc_outcome pm_outcome an_outcome cd_outcome ct_outcome), sl_outcome⟩)
    (q_outcome : PySem.W.codeIn K cd_outcome "outcome" = true)
    (k_outcome : PySem.W.keepIn K (.ref f_outcome) = true)
    (a__law_start : PySem.W.nsIn K mainGlobals "_law_start" = some (some (.ref f__law_start)))
    (l__law_start : K.lookup f__law_start = some ⟨oc__law_start, od__law_start, .func (PySem.W.fnOf "_law_start" "_law_start" (defArgs s__law_start) (defBody s__law_start) (defScope s__law_start) .none kV__law_start dc__law_start pm__law_start an__law_start cd__law_start ct__law_start), sl__law_start⟩)
    (q__law_start : PySem.W.codeIn K cd__law_start "_law_start" = true)
    (k__law_start : PySem.W.keepIn K (.ref f__law_start) = true)
    (a__law_drawn : PySem.W.nsIn K mainGlobals "_law_drawn" = some (some (.ref f__law_drawn)))
    (l__law_drawn : K.lookup f__law_drawn = some ⟨oc__law_drawn, od__law_drawn, .func (PySem.W.fnOf "_law_drawn" "_law_drawn" (defArgs s__law_drawn) (defBody s__law_drawn) (defScope s__law_drawn) .none kV__law_drawn dc__law_drawn pm__law_drawn an__law_drawn cd__law_drawn ct__law_drawn), sl__law_drawn⟩)
    (q__law_drawn : PySem.W.codeIn K cd__law_drawn "_law_drawn" = true)
    (k__law_drawn : PySem.W.keepIn K (.ref f__law_drawn) = true)
    (a__law_amounts : PySem.W.nsIn K mainGlobals "_law_amounts" = some (some (.ref f__law_amounts)))
    (l__law_amounts : K.lookup f__law_amounts = some ⟨oc__law_amounts, od__law_amounts, .func (PySem.W.fnOf "_law_amounts" "_law_amounts" (defArgs s__law_amounts) (defBody s__law_amounts) (defScope s__law_amounts) .none kV__law_amounts dc__law_amounts pm__law_amounts an__law_amounts cd__law_amounts ct__law_amounts), sl__law_amounts⟩)
    (q__law_amounts : PySem.W.codeIn K cd__law_amounts "_law_amounts" = true)
    (k__law_amounts : PySem.W.keepIn K (.ref f__law_amounts) = true)
    (a_law : PySem.W.nsIn K mainGlobals "law" = some (some (.ref f_law)))
    (l_law : K.lookup f_law = some ⟨oc_law, od_law, .func (PySem.W.fnOf "law" "law" (defArgs s_law) (defBody s_law) (defScope s_law) .none kV_law dc_law pm_law an_law cd_law ct_law), sl_law⟩)
    (q_law : PySem.W.codeIn K cd_law "law" = true)
    (k_law : PySem.W.keepIn K (.ref f_law) = true) :
    ∃ fd : FuncData, (∀ (s : Shared) (v : Value), BindsTo s fd ⟨[v], []⟩ [("_law_script", v)]) ∧ ∀ base : Heap, K.In base → base.Ns mainGlobals mg → FnOk l.prog w K mg base CX0 8 fa fd ["_law_script"] (sp_law K) := by
  have e := hfa.symm.trans (PySem.W.mg_of X G a_law)
  cases e
  have F_count_keepable := fun_mk (st := s_count_keepable) l_count_keepable q_count_keepable k_count_keepable
  have B_count_keepable := F_count_keepable.binds (ps := p_count_keepable) fun _ _ _ _ _ _ us hl => match us, hl with | [_, _], _ => rfl
  have F_sum_repeated := fun_mk (st := s_sum_repeated) l_sum_repeated q_sum_repeated k_sum_repeated
  have B_sum_repeated := F_sum_repeated.binds (ps := p_sum_repeated) fun _ _ _ _ _ _ us hl => match us, hl with | [_, _], _ => rfl
  have F_Course___init__ := fun_mk (st := s_Course___init__) l_Course___init__ q_Course___init__ k_Course___init__
  have B_Course___init__ := F_Course___init__.binds (ps := p_Course___init__) fun _ _ _ _ _ _ us hl => match us, hl with | [_, _, _, _], _ => rfl
  have F_Course_stock_at := fun_mk (st := s_Course_stock_at) l_Course_stock_at q_Course_stock_at k_Course_stock_at
  have B_Course_stock_at := F_Course_stock_at.binds (ps := p_Course_stock_at) fun _ _ _ _ _ _ us hl => match us, hl with | [_, _], _ => rfl
  have F_Course_sales_on := fun_mk (st := s_Course_sales_on) l_Course_sales_on q_Course_sales_on k_Course_sales_on
  have B_Course_sales_on := F_Course_sales_on.binds (ps := p_Course_sales_on) fun _ _ _ _ _ _ us hl => match us, hl with | [_, _], _ => rfl
  have F_Course_sales_before := fun_mk (st := s_Course_sales_before) l_Course_sales_before q_Course_sales_before k_Course_sales_before
  have B_Course_sales_before := F_Course_sales_before.binds (ps := p_Course_sales_before) fun _ _ _ _ _ _ us hl => match us, hl with | [_, _], _ => rfl
  have F_Course_find_settled := fun_mk (st := s_Course_find_settled) l_Course_find_settled q_Course_find_settled k_Course_find_settled
  have B_Course_find_settled := F_Course_find_settled.binds (ps := p_Course_find_settled) fun _ _ _ _ _ _ us hl => match us, hl with | [_], _ => rfl
  have F_Course_sum_settled_round := fun_mk (st := s_Course_sum_settled_round) l_Course_sum_settled_round q_Course_sum_settled_round k_Course_sum_settled_round
  have B_Course_sum_settled_round := F_Course_sum_settled_round.binds (ps := p_Course_sum_settled_round) fun _ _ _ _ _ _ us hl => match us, hl with | [_], _ => rfl
  have F_Course__play_round := fun_mk (st := s_Course__play_round) l_Course__play_round q_Course__play_round k_Course__play_round
  have B_Course__play_round := F_Course__play_round.binds (ps := p_Course__play_round) fun _ _ _ _ _ _ us hl => match us, hl with | [_, _], _ => rfl
  have F_Course__stocks_in := fun_mk (st := s_Course__stocks_in) l_Course__stocks_in q_Course__stocks_in k_Course__stocks_in
  have B_Course__stocks_in := F_Course__stocks_in.binds (ps := p_Course__stocks_in) fun _ _ _ _ _ _ us hl => match us, hl with | [_, _], _ => rfl
  have F_Course__misses_in := fun_mk (st := s_Course__misses_in) l_Course__misses_in q_Course__misses_in k_Course__misses_in
  have B_Course__misses_in := F_Course__misses_in.binds (ps := p_Course__misses_in) fun _ _ _ _ _ _ us hl => match us, hl with | [_, _], _ => rfl
  have F_Course__count_growing := fun_mk (st := s_Course__count_growing) l_Course__count_growing q_Course__count_growing k_Course__count_growing
  have B_Course__count_growing := F_Course__count_growing.binds (ps := p_Course__count_growing) fun _ _ _ _ _ _ us hl => match us, hl with | [_], _ => rfl
  have F_check_number := fun_mk (st := s_check_number) l_check_number q_check_number k_check_number
  have B_check_number := F_check_number.binds (ps := p_check_number) fun _ _ _ _ _ _ us hl => match us, hl with | [_, _, _], _ => rfl
  have F_check_amounts := fun_mk (st := s_check_amounts) l_check_amounts q_check_amounts k_check_amounts
  have B_check_amounts := F_check_amounts.binds (ps := p_check_amounts) fun _ _ _ _ _ _ us hl => match us, hl with | [_, _], _ => rfl
  have F_check_life := fun_mk (st := s_check_life) l_check_life q_check_life k_check_life
  have B_check_life := F_check_life.binds (ps := p_check_life) fun _ _ _ _ _ _ us hl => match us, hl with | [_], _ => rfl
  have F_check_bakery := fun_mk (st := s_check_bakery) l_check_bakery q_check_bakery k_check_bakery
  have B_check_bakery := F_check_bakery.binds (ps := p_check_bakery) fun _ _ _ _ _ _ us hl => match us, hl with | [_, _, _], _ => rfl
  have F_Bakery___init__ := fun_mk (st := s_Bakery___init__) l_Bakery___init__ q_Bakery___init__ k_Bakery___init__
  have B_Bakery___init__ := F_Bakery___init__.binds (ps := p_Bakery___init__) fun _ _ _ _ _ _ us hl => match us, hl with | [_, _, _, _], _ => rfl
  have F_Bakery_sold := fun_mk (st := s_Bakery_sold) l_Bakery_sold q_Bakery_sold k_Bakery_sold
  have B_Bakery_sold := F_Bakery_sold.binds (ps := p_Bakery_sold) fun _ _ _ _ _ _ us hl => match us, hl with | [_, _], _ => rfl
  have F_Bakery_missed := fun_mk (st := s_Bakery_missed) l_Bakery_missed q_Bakery_missed k_Bakery_missed
  have B_Bakery_missed := F_Bakery_missed.binds (ps := p_Bakery_missed) fun _ _ _ _ _ _ us hl => match us, hl with | [_, _], _ => rfl
  have F_Bakery_thrown := fun_mk (st := s_Bakery_thrown) l_Bakery_thrown q_Bakery_thrown k_Bakery_thrown
  have B_Bakery_thrown := F_Bakery_thrown.binds (ps := p_Bakery_thrown) fun _ _ _ _ _ _ us hl => match us, hl with | [_, _], _ => rfl
  have F_Bakery_totals := fun_mk (st := s_Bakery_totals) l_Bakery_totals q_Bakery_totals k_Bakery_totals
  have B_Bakery_totals := F_Bakery_totals.binds (ps := p_Bakery_totals) fun _ _ _ _ _ _ us hl => match us, hl with | [_, _], _ => rfl
  have F_check_part := fun_mk (st := s_check_part) l_check_part q_check_part k_check_part
  have B_check_part := F_check_part.binds (ps := p_check_part) fun _ _ _ _ _ _ us hl => match us, hl with | [_, _, _], _ => rfl
  have F_Rule___init__ := fun_mk (st := s_Rule___init__) l_Rule___init__ q_Rule___init__ k_Rule___init__
  have B_Rule___init__ := F_Rule___init__.binds (ps := p_Rule___init__) fun _ _ _ _ _ _ us hl => match us, hl with | [_, _], _ => rfl
  have F_Rule_count_baked := fun_mk (st := s_Rule_count_baked) l_Rule_count_baked q_Rule_count_baked k_Rule_count_baked
  have B_Rule_count_baked := F_Rule_count_baked.binds (ps := p_Rule_count_baked) fun _ _ _ _ _ _ us hl => match us, hl with | [_, _, _, _], _ => rfl
  have F_RefillRule___init__ := fun_mk (st := s_RefillRule___init__) l_RefillRule___init__ q_RefillRule___init__ k_RefillRule___init__
  have B_RefillRule___init__ := F_RefillRule___init__.binds (ps := p_RefillRule___init__) fun _ _ _ _ _ _ us hl => match us, hl with | [_, _], _ => rfl
  have F_RefillRule_count_baked := fun_mk (st := s_RefillRule_count_baked) l_RefillRule_count_baked q_RefillRule_count_baked k_RefillRule_count_baked
  have B_RefillRule_count_baked := F_RefillRule_count_baked.binds (ps := p_RefillRule_count_baked) fun _ _ _ _ _ _ us hl => match us, hl with | [_, _, _, _], _ => rfl
  have B_SoldRule___init__ : KBn K (PySem.W.ksFn "__init__" "SoldRule.__init__" (defArgs s_SoldRule___init__) (defBody s_SoldRule___init__) (defScope s_SoldRule___init__) .none kV_SoldRule___init__ dc_SoldRule___init__ pm_SoldRule___init__ an_SoldRule___init__ (.ref ka_SoldRule___init__) ct_SoldRule___init__ cc_SoldRule___init__) p_SoldRule___init__ 2 ["more"] (fun us ws => us ++ ws) (fun vs zs => vs ++ zs) := ⟨fun s us ws _ h1 h2 => BindsTo.of_eq (match us, ws, h1, h2 with | [_, _], [_], _, _ => rfl), fun a b => a.append b⟩
  have F_SoldRule_count_baked := fun_mk (st := s_SoldRule_count_baked) l_SoldRule_count_baked q_SoldRule_count_baked k_SoldRule_count_baked
  have B_SoldRule_count_baked := F_SoldRule_count_baked.binds (ps := p_SoldRule_count_baked) fun _ _ _ _ _ _ us hl => match us, hl with | [_, _, _, _], _ => rfl
  have F_run := fun_mk (st := s_run) l_run q_run k_run
  have B_run := F_run.binds (ps := p_run) fun _ _ _ _ _ _ us hl => match us, hl with | [_, _, _, _], _ => rfl
  have F_outcome := fun_mk (st := s_outcome) l_outcome q_outcome k_outcome
  have B_outcome := F_outcome.binds (ps := p_outcome) fun _ _ _ _ _ _ us hl => match us, hl with | [_, _, _, _], _ => rfl
  have F__law_start := fun_mk (st := s__law_start) l__law_start q__law_start k__law_start
  have B__law_start := F__law_start.binds (ps := p__law_start) fun _ _ _ _ _ _ us hl => match us, hl with | [_], _ => rfl
  have F__law_drawn := fun_mk (st := s__law_drawn) l__law_drawn q__law_drawn k__law_drawn
  have B__law_drawn := F__law_drawn.binds (ps := p__law_drawn) fun _ _ _ _ _ _ us hl => match us, hl with | [_, _], _ => rfl
  have F__law_amounts := fun_mk (st := s__law_amounts) l__law_amounts q__law_amounts k__law_amounts
  have B__law_amounts := F__law_amounts.binds (ps := p__law_amounts) fun _ _ _ _ _ _ us hl => match us, hl with | [_, _, _], _ => rfl
  have F_law := fun_mk (st := s_law) l_law q_law k_law
  have B_law := F_law.binds (ps := p_law) fun _ _ _ _ _ _ us hl => match us, hl with | [_], _ => rfl
  have T : Txt K mg { c_Course := c_Course, mc_Course := .none, c_Bakery := c_Bakery, mc_Bakery := .type "type", c_Rule := c_Rule, mc_Rule := .none, c_RefillRule := c_RefillRule, mc_RefillRule := .none, c_SoldRule := c_SoldRule, mc_SoldRule := .none, t_MOST_LOAVES := t_MOST_LOAVES, t_LAST_DAY := t_LAST_DAY, t_MOST_RULE_DAYS := t_MOST_RULE_DAYS, P := l.prog, f_count_keepable := f_count_keepable, d_count_keepable := PySem.W.fnOf "count_keepable" "count_keepable" (defArgs s_count_keepable) (defBody s_count_keepable) (defScope s_count_keepable) .none kV_count_keepable dc_count_keepable pm_count_keepable an_count_keepable cd_count_keepable ct_count_keepable, f_sum_repeated := f_sum_repeated, d_sum_repeated := PySem.W.fnOf "sum_repeated" "sum_repeated" (defArgs s_sum_repeated) (defBody s_sum_repeated) (defScope s_sum_repeated) .none kV_sum_repeated dc_sum_repeated pm_sum_repeated an_sum_repeated cd_sum_repeated ct_sum_repeated, f_Course___init__ := f_Course___init__, d_Course___init__ := PySem.W.fnOf "__init__" "Course.__init__" (defArgs s_Course___init__) (defBody s_Course___init__) (defScope s_Course___init__) .none kV_Course___init__ dc_Course___init__ pm_Course___init__ an_Course___init__ cd_Course___init__ ct_Course___init__, f_Course_stock_at := f_Course_stock_at, d_Course_stock_at := PySem.W.fnOf "stock_at" "Course.stock_at" (defArgs s_Course_stock_at) (defBody s_Course_stock_at) (defScope s_Course_stock_at) .none kV_Course_stock_at dc_Course_stock_at pm_Course_stock_at an_Course_stock_at cd_Course_stock_at ct_Course_stock_at, f_Course_sales_on := f_Course_sales_on, d_Course_sales_on := PySem.W.fnOf "sales_on" "Course.sales_on" (defArgs s_Course_sales_on) (defBody s_Course_sales_on) (defScope s_Course_sales_on) .none kV_Course_sales_on dc_Course_sales_on pm_Course_sales_on an_Course_sales_on cd_Course_sales_on ct_Course_sales_on, f_Course_sales_before := f_Course_sales_before, d_Course_sales_before := PySem.W.fnOf "sales_before" "Course.sales_before" (defArgs s_Course_sales_before) (defBody s_Course_sales_before) (defScope s_Course_sales_before) .none kV_Course_sales_before dc_Course_sales_before pm_Course_sales_before an_Course_sales_before cd_Course_sales_before ct_Course_sales_before, f_Course_find_settled := f_Course_find_settled, d_Course_find_settled := PySem.W.fnOf "find_settled" "Course.find_settled" (defArgs s_Course_find_settled) (defBody s_Course_find_settled) (defScope s_Course_find_settled) .none kV_Course_find_settled dc_Course_find_settled pm_Course_find_settled an_Course_find_settled cd_Course_find_settled ct_Course_find_settled, f_Course_sum_settled_round := f_Course_sum_settled_round, d_Course_sum_settled_round := PySem.W.fnOf "sum_settled_round" "Course.sum_settled_round" (defArgs s_Course_sum_settled_round) (defBody s_Course_sum_settled_round) (defScope s_Course_sum_settled_round) .none kV_Course_sum_settled_round dc_Course_sum_settled_round pm_Course_sum_settled_round an_Course_sum_settled_round cd_Course_sum_settled_round ct_Course_sum_settled_round, f_Course__play_round := f_Course__play_round, d_Course__play_round := PySem.W.fnOf "_play_round" "Course._play_round" (defArgs s_Course__play_round) (defBody s_Course__play_round) (defScope s_Course__play_round) .none kV_Course__play_round dc_Course__play_round pm_Course__play_round an_Course__play_round cd_Course__play_round ct_Course__play_round, f_Course__stocks_in := f_Course__stocks_in, d_Course__stocks_in := PySem.W.fnOf "_stocks_in" "Course._stocks_in" (defArgs s_Course__stocks_in) (defBody s_Course__stocks_in) (defScope s_Course__stocks_in) .none kV_Course__stocks_in dc_Course__stocks_in pm_Course__stocks_in an_Course__stocks_in cd_Course__stocks_in ct_Course__stocks_in, f_Course__misses_in := f_Course__misses_in, d_Course__misses_in := PySem.W.fnOf "_misses_in" "Course._misses_in" (defArgs s_Course__misses_in) (defBody s_Course__misses_in) (defScope s_Course__misses_in) .none kV_Course__misses_in dc_Course__misses_in pm_Course__misses_in an_Course__misses_in cd_Course__misses_in ct_Course__misses_in, f_Course__count_growing := f_Course__count_growing, d_Course__count_growing := PySem.W.fnOf "_count_growing" "Course._count_growing" (defArgs s_Course__count_growing) (defBody s_Course__count_growing) (defScope s_Course__count_growing) .none kV_Course__count_growing dc_Course__count_growing pm_Course__count_growing an_Course__count_growing cd_Course__count_growing ct_Course__count_growing, f_check_number := f_check_number, d_check_number := PySem.W.fnOf "check_number" "check_number" (defArgs s_check_number) (defBody s_check_number) (defScope s_check_number) .none kV_check_number dc_check_number pm_check_number an_check_number cd_check_number ct_check_number, f_check_amounts := f_check_amounts, d_check_amounts := PySem.W.fnOf "check_amounts" "check_amounts" (defArgs s_check_amounts) (defBody s_check_amounts) (defScope s_check_amounts) .none kV_check_amounts dc_check_amounts pm_check_amounts an_check_amounts cd_check_amounts ct_check_amounts, f_check_life := f_check_life, d_check_life := PySem.W.fnOf "check_life" "check_life" (defArgs s_check_life) (defBody s_check_life) (defScope s_check_life) .none kV_check_life dc_check_life pm_check_life an_check_life cd_check_life ct_check_life, f_check_bakery := f_check_bakery, d_check_bakery := PySem.W.fnOf "check_bakery" "check_bakery" (defArgs s_check_bakery) (defBody s_check_bakery) (defScope s_check_bakery) .none kV_check_bakery dc_check_bakery pm_check_bakery an_check_bakery cd_check_bakery ct_check_bakery, f_Bakery___init__ := f_Bakery___init__, d_Bakery___init__ := PySem.W.fnOf "__init__" "Bakery.__init__" (defArgs s_Bakery___init__) (defBody s_Bakery___init__) (defScope s_Bakery___init__) .none kV_Bakery___init__ dc_Bakery___init__ pm_Bakery___init__ an_Bakery___init__ cd_Bakery___init__ ct_Bakery___init__, f_Bakery_sold := f_Bakery_sold, d_Bakery_sold := PySem.W.fnOf "sold" "Bakery.sold" (defArgs s_Bakery_sold) (defBody s_Bakery_sold) (defScope s_Bakery_sold) .none kV_Bakery_sold dc_Bakery_sold pm_Bakery_sold an_Bakery_sold cd_Bakery_sold ct_Bakery_sold, f_Bakery_missed := f_Bakery_missed, d_Bakery_missed := PySem.W.fnOf "missed" "Bakery.missed" (defArgs s_Bakery_missed) (defBody s_Bakery_missed) (defScope s_Bakery_missed) .none kV_Bakery_missed dc_Bakery_missed pm_Bakery_missed an_Bakery_missed cd_Bakery_missed ct_Bakery_missed, f_Bakery_thrown := f_Bakery_thrown, d_Bakery_thrown := PySem.W.fnOf "thrown" "Bakery.thrown" (defArgs s_Bakery_thrown) (defBody s_Bakery_thrown) (defScope s_Bakery_thrown) .none kV_Bakery_thrown dc_Bakery_thrown pm_Bakery_thrown an_Bakery_thrown cd_Bakery_thrown ct_Bakery_thrown, f_Bakery_totals := f_Bakery_totals, d_Bakery_totals := PySem.W.fnOf "totals" "Bakery.totals" (defArgs s_Bakery_totals) (defBody s_Bakery_totals) (defScope s_Bakery_totals) .none kV_Bakery_totals dc_Bakery_totals pm_Bakery_totals an_Bakery_totals cd_Bakery_totals ct_Bakery_totals, f_check_part := f_check_part, d_check_part := PySem.W.fnOf "check_part" "check_part" (defArgs s_check_part) (defBody s_check_part) (defScope s_check_part) .none kV_check_part dc_check_part pm_check_part an_check_part cd_check_part ct_check_part, f_Rule___init__ := f_Rule___init__, d_Rule___init__ := PySem.W.fnOf "__init__" "Rule.__init__" (defArgs s_Rule___init__) (defBody s_Rule___init__) (defScope s_Rule___init__) .none kV_Rule___init__ dc_Rule___init__ pm_Rule___init__ an_Rule___init__ cd_Rule___init__ ct_Rule___init__, f_Rule_count_baked := f_Rule_count_baked, d_Rule_count_baked := PySem.W.fnOf "count_baked" "Rule.count_baked" (defArgs s_Rule_count_baked) (defBody s_Rule_count_baked) (defScope s_Rule_count_baked) .none kV_Rule_count_baked dc_Rule_count_baked pm_Rule_count_baked an_Rule_count_baked cd_Rule_count_baked ct_Rule_count_baked, f_RefillRule___init__ := f_RefillRule___init__, d_RefillRule___init__ := PySem.W.fnOf "__init__" "RefillRule.__init__" (defArgs s_RefillRule___init__) (defBody s_RefillRule___init__) (defScope s_RefillRule___init__) .none kV_RefillRule___init__ dc_RefillRule___init__ pm_RefillRule___init__ an_RefillRule___init__ cd_RefillRule___init__ ct_RefillRule___init__, f_RefillRule_count_baked := f_RefillRule_count_baked, d_RefillRule_count_baked := PySem.W.fnOf "count_baked" "RefillRule.count_baked" (defArgs s_RefillRule_count_baked) (defBody s_RefillRule_count_baked) (defScope s_RefillRule_count_baked) .none kV_RefillRule_count_baked dc_RefillRule_count_baked pm_RefillRule_count_baked an_RefillRule_count_baked cd_RefillRule_count_baked ct_RefillRule_count_baked, f_SoldRule___init__ := f_SoldRule___init__, k_SoldRule___init__ := ka_SoldRule___init__, cc_SoldRule___init__ := cc_SoldRule___init__, d_SoldRule___init__ := PySem.W.ksFn "__init__" "SoldRule.__init__" (defArgs s_SoldRule___init__) (defBody s_SoldRule___init__) (defScope s_SoldRule___init__) .none kV_SoldRule___init__ dc_SoldRule___init__ pm_SoldRule___init__ an_SoldRule___init__ (.ref ka_SoldRule___init__) ct_SoldRule___init__ cc_SoldRule___init__, f_SoldRule_count_baked := f_SoldRule_count_baked, d_SoldRule_count_baked := PySem.W.fnOf "count_baked" "SoldRule.count_baked" (defArgs s_SoldRule_count_baked) (defBody s_SoldRule_count_baked) (defScope s_SoldRule_count_baked) .none kV_SoldRule_count_baked dc_SoldRule_count_baked pm_SoldRule_count_baked an_SoldRule_count_baked cd_SoldRule_count_baked ct_SoldRule_count_baked, f_run := f_run, d_run := PySem.W.fnOf "run" "run" (defArgs s_run) (defBody s_run) (defScope s_run) .none kV_run dc_run pm_run an_run cd_run ct_run, f_outcome := f_outcome, d_outcome := PySem.W.fnOf "outcome" "outcome" (defArgs s_outcome) (defBody s_outcome) (defScope s_outcome) .none kV_outcome dc_outcome pm_outcome an_outcome cd_outcome ct_outcome, f__law_start := f__law_start, d__law_start := PySem.W.fnOf "_law_start" "_law_start" (defArgs s__law_start) (defBody s__law_start) (defScope s__law_start) .none kV__law_start dc__law_start pm__law_start an__law_start cd__law_start ct__law_start, f__law_drawn := f__law_drawn, d__law_drawn := PySem.W.fnOf "_law_drawn" "_law_drawn" (defArgs s__law_drawn) (defBody s__law_drawn) (defScope s__law_drawn) .none kV__law_drawn dc__law_drawn pm__law_drawn an__law_drawn cd__law_drawn ct__law_drawn, f__law_amounts := f__law_amounts, d__law_amounts := PySem.W.fnOf "_law_amounts" "_law_amounts" (defArgs s__law_amounts) (defBody s__law_amounts) (defScope s__law_amounts) .none kV__law_amounts dc__law_amounts pm__law_amounts an__law_amounts cd__law_amounts ct__law_amounts, f_law := fa, d_law := PySem.W.fnOf "law" "law" (defArgs s_law) (defBody s_law) (defScope s_law) .none kV_law dc_law pm_law an_law cd_law ct_law } :=
    { g_Course := PySem.W.mg_of X G g_Course,
      cl_Course := ⟨pg_Course, hd_Course, po_Course, sa_Course⟩,
      g_Bakery := PySem.W.mg_of X G g_Bakery,
      cl_Bakery := ⟨pg_Bakery, hd_Bakery, po_Bakery, sa_Bakery⟩,
      g_Rule := PySem.W.mg_of X G g_Rule,
      cl_Rule := ⟨pg_Rule, hd_Rule, po_Rule, sa_Rule⟩,
      g_RefillRule := PySem.W.mg_of X G g_RefillRule,
      cl_RefillRule := ⟨pg_RefillRule, hd_RefillRule, po_RefillRule, sa_RefillRule⟩,
      g_SoldRule := PySem.W.mg_of X G g_SoldRule,
      cl_SoldRule := ⟨pg_SoldRule, hd_SoldRule, po_SoldRule, sa_SoldRule⟩,
      na_Course__bakes := na_Course__bakes,
      na_Course__demands := na_Course__demands,
      na_Course__keepable := na_Course__keepable,
      na_Course__gain := na_Course__gain,
      na_Course__first_end := na_Course__first_end,
      na_Course__full_end := na_Course__full_end,
      na_Course__first_misses := na_Course__first_misses,
      na_Course__later_misses := na_Course__later_misses,
      na_Bakery__bakes := na_Bakery__bakes,
      na_Bakery__demands := na_Bakery__demands,
      na_Bakery__life := na_Bakery__life,
      na_Bakery_course := na_Bakery_course,
      na_Bakery__settled_day := na_Bakery__settled_day,
      na_Bakery__long_run := na_Bakery__long_run,
      cv_Bakery_MAX_DAYS := ⟨⟨rd_Bakery, gt_Bakery⟩, _, ⟨cv_Bakery_MAX_DAYS, ⟨_, rfl⟩⟩⟩,
      cv_Bakery_MAX_LIFE := ⟨⟨rd_Bakery, gt_Bakery⟩, _, ⟨cv_Bakery_MAX_LIFE, ⟨_, rfl⟩⟩⟩,
      na_Rule__amount := na_Rule__amount,
      na_RefillRule__goal := na_RefillRule__goal,
      na_SoldRule__more := na_SoldRule__more,
      na_SoldRule__amount := na_SoldRule__amount,
      g_MOST_LOAVES := PySem.W.mg_of X G g_MOST_LOAVES,
      g_LAST_DAY := PySem.W.mg_of X G g_LAST_DAY,
      g_MOST_RULE_DAYS := PySem.W.mg_of X G g_MOST_RULE_DAYS,
      b_divmod := PySem.W.mg_none_of X G b_divmod,
      b_enumerate := PySem.W.mg_none_of X G b_enumerate,
      b_int := PySem.W.mg_none_of X G b_int,
      b_len := PySem.W.mg_none_of X G b_len,
      b_max := PySem.W.mg_none_of X G b_max,
      b_min := PySem.W.mg_none_of X G b_min,
      b_range := PySem.W.mg_none_of X G b_range,
      b_sum := PySem.W.mg_none_of X G b_sum,
      b_super := PySem.W.mg_none_of X G b_super,
      b_tuple := PySem.W.mg_none_of X G b_tuple,
      b_zip := PySem.W.mg_none_of X G b_zip,
      g_count_keepable := PySem.W.mg_of X G a_count_keepable,
      F_count_keepable := F_count_keepable,
      b_count_keepable := B_count_keepable,
      g_sum_repeated := PySem.W.mg_of X G a_sum_repeated,
      F_sum_repeated := F_sum_repeated,
      b_sum_repeated := B_sum_repeated,
      mk_Course := ⟨mk_Course, a_Course___init__, i_Course___init__, kc_Course⟩,
      F_Course___init__ := F_Course___init__,
      b_Course___init__ := B_Course___init__,
      m_Course_stock_at := ⟨a_Course_stock_at, i_Course_stock_at, k_Course_stock_at⟩,
      F_Course_stock_at := F_Course_stock_at,
      b_Course_stock_at := B_Course_stock_at,
      m_Course_sales_on := ⟨a_Course_sales_on, i_Course_sales_on, k_Course_sales_on⟩,
      F_Course_sales_on := F_Course_sales_on,
      b_Course_sales_on := B_Course_sales_on,
      m_Course_sales_before := ⟨a_Course_sales_before, i_Course_sales_before, k_Course_sales_before⟩,
      F_Course_sales_before := F_Course_sales_before,
      b_Course_sales_before := B_Course_sales_before,
      m_Course_find_settled := ⟨a_Course_find_settled, i_Course_find_settled, k_Course_find_settled⟩,
      F_Course_find_settled := F_Course_find_settled,
      b_Course_find_settled := B_Course_find_settled,
      m_Course_sum_settled_round := ⟨a_Course_sum_settled_round, i_Course_sum_settled_round, k_Course_sum_settled_round⟩,
      F_Course_sum_settled_round := F_Course_sum_settled_round,
      b_Course_sum_settled_round := B_Course_sum_settled_round,
      m_Course__play_round := ⟨a_Course__play_round, i_Course__play_round, k_Course__play_round⟩,
      F_Course__play_round := F_Course__play_round,
      b_Course__play_round := B_Course__play_round,
      m_Course__stocks_in := ⟨a_Course__stocks_in, i_Course__stocks_in, k_Course__stocks_in⟩,
      F_Course__stocks_in := F_Course__stocks_in,
      b_Course__stocks_in := B_Course__stocks_in,
      m_Course__misses_in := ⟨a_Course__misses_in, i_Course__misses_in, k_Course__misses_in⟩,
      F_Course__misses_in := F_Course__misses_in,
      b_Course__misses_in := B_Course__misses_in,
      m_Course__count_growing := ⟨a_Course__count_growing, i_Course__count_growing, k_Course__count_growing⟩,
      F_Course__count_growing := F_Course__count_growing,
      b_Course__count_growing := B_Course__count_growing,
      g_check_number := PySem.W.mg_of X G a_check_number,
      F_check_number := F_check_number,
      b_check_number := B_check_number,
      g_check_amounts := PySem.W.mg_of X G a_check_amounts,
      F_check_amounts := F_check_amounts,
      b_check_amounts := B_check_amounts,
      g_check_life := PySem.W.mg_of X G a_check_life,
      F_check_life := F_check_life,
      b_check_life := B_check_life,
      g_check_bakery := PySem.W.mg_of X G a_check_bakery,
      F_check_bakery := F_check_bakery,
      b_check_bakery := B_check_bakery,
      mk_Bakery := ⟨mk_Bakery, a_Bakery___init__, i_Bakery___init__, kc_Bakery⟩,
      F_Bakery___init__ := F_Bakery___init__,
      b_Bakery___init__ := B_Bakery___init__,
      m_Bakery_sold := ⟨a_Bakery_sold, i_Bakery_sold, k_Bakery_sold⟩,
      F_Bakery_sold := F_Bakery_sold,
      b_Bakery_sold := B_Bakery_sold,
      m_Bakery_missed := ⟨a_Bakery_missed, i_Bakery_missed, k_Bakery_missed⟩,
      F_Bakery_missed := F_Bakery_missed,
      b_Bakery_missed := B_Bakery_missed,
      m_Bakery_thrown := ⟨a_Bakery_thrown, i_Bakery_thrown, k_Bakery_thrown⟩,
      F_Bakery_thrown := F_Bakery_thrown,
      b_Bakery_thrown := B_Bakery_thrown,
      m_Bakery_totals := ⟨a_Bakery_totals, i_Bakery_totals, k_Bakery_totals⟩,
      F_Bakery_totals := F_Bakery_totals,
      b_Bakery_totals := B_Bakery_totals,
      g_check_part := PySem.W.mg_of X G a_check_part,
      F_check_part := F_check_part,
      b_check_part := B_check_part,
      mk_Rule := ⟨mk_Rule, a_Rule___init__, i_Rule___init__, kc_Rule⟩,
      F_Rule___init__ := F_Rule___init__,
      b_Rule___init__ := B_Rule___init__,
      m_Rule_count_baked := ⟨a_Rule_count_baked, i_Rule_count_baked, k_Rule_count_baked⟩,
      F_Rule_count_baked := F_Rule_count_baked,
      b_Rule_count_baked := B_Rule_count_baked,
      mk_RefillRule := ⟨mk_RefillRule, a_RefillRule___init__, i_RefillRule___init__, kc_RefillRule⟩,
      F_RefillRule___init__ := F_RefillRule___init__,
      b_RefillRule___init__ := B_RefillRule___init__,
      m_RefillRule_count_baked := ⟨a_RefillRule_count_baked, i_RefillRule_count_baked, k_RefillRule_count_baked⟩,
      F_RefillRule_count_baked := F_RefillRule_count_baked,
      b_RefillRule_count_baked := B_RefillRule_count_baked,
      mk_SoldRule := ⟨mk_SoldRule, a_SoldRule___init__, i_SoldRule___init__, kc_SoldRule⟩,
      su_SoldRule___init__ := ⟨⟨_, _, _, _, _, _, _, _, _, rfl, l_SoldRule___init__, q_SoldRule___init__⟩, ⟨_, _, _, _, _, _, lk_SoldRule___init__, vf_SoldRule___init__, fi_SoldRule___init__⟩, ⟨_, _, _, ce_SoldRule___init__⟩, zu_any, sp_SoldRule___init__, sy_SoldRule___init__, sf_SoldRule___init__, sb_SoldRule___init__, sc_SoldRule, zu_top⟩,
      b_SoldRule___init__ := B_SoldRule___init__,
      m_SoldRule_count_baked := ⟨a_SoldRule_count_baked, i_SoldRule_count_baked, k_SoldRule_count_baked⟩,
      F_SoldRule_count_baked := F_SoldRule_count_baked,
      b_SoldRule_count_baked := B_SoldRule_count_baked,
      g_run := PySem.W.mg_of X G a_run,
      F_run := F_run,
      b_run := B_run,
      g_outcome := PySem.W.mg_of X G a_outcome,
      F_outcome := F_outcome,
      b_outcome := B_outcome,
      g__law_start := PySem.W.mg_of X G a__law_start,
      F__law_start := F__law_start,
      b__law_start := B__law_start,
      g__law_drawn := PySem.W.mg_of X G a__law_drawn,
      F__law_drawn := F__law_drawn,
      b__law_drawn := B__law_drawn,
      g__law_amounts := PySem.W.mg_of X G a__law_amounts,
      F__law_amounts := F__law_amounts,
      b__law_amounts := B__law_amounts,
      g_law := PySem.W.mg_of X G a_law,
      F_law := F_law,
      b_law := B_law }
  exact ⟨PySem.W.fnOf "law" "law" (defArgs s_law) (defBody s_law) (defScope s_law) .none kV_law dc_law pm_law an_law cd_law ct_law, fun s v => .of_eq rfl, fun base _ _ => ok_law T rfl⟩
theorem walk {l : PySem.W.OpenLaw} {q : Program} {loose : List Str} {XP : (Str → Option Value) → Heap → Prop} {YP : World → Heap → Prop} {d : DefRec} {K : Params → PySem.W.Frag} (hn : l.most = some 63) (hdf : d.params.defaults = [])
    (hY : ∀ (w : World) (h : Heap), YP w h → (K w.params).In h)
    (F : ∀ (w : World) (mg : Str → Option Value) (fa : Addr) (h : Heap), (K w.params).In h → h.Ns mainGlobals mg → mg d.name = some (.ref fa) →
      ∃ fd : FuncData, (∀ (s : Shared) (u : Value), BindsTo s fd ⟨[u], []⟩ [("_law_script", u)]) ∧ ∀ base : Heap, (K w.params).In base → base.Ns mainGlobals mg → FnOk l.prog w (K w.params) mg base CX0 8 fa fd ["_law_script"] (sp_law (K w.params))) :
    PySem.W.WalkO q loose XP YP l.row.toRowW d [] (fun f vs => PySem.call f vs) :=
  L2.walk_of (n := 63) (k := 8) (x := "_law_script") (CX := fun _ => CX0) (sp := fun w => sp_law (K w.params)) hn (by decide) hdf ⟨rfl, by decide, by decide⟩ hY F (fun _ _ a ns hl _ hS => ⟨a, ns, rfl, hS, hl, fun _ => rfl⟩) fun _ _ _ _ _ z => z
end Sw

open PySem PySem.W PyProof.Rows
set_option maxRecDepth 100000 in
set_option maxHeartbeats 0 in
theorem PySem.Challenge.cw_staleloaves_k42_whole_rules_and_bakeries_holds : PySem.Challenge.rw_staleloaves_k42_whole_rules_and_bakeries.Holds := by
  w_on; o_law; k_head; (case hw => w_witness2)
  k_fill
  refine Sw.walk (l := PySem.Challenge.rw_staleloaves_k42_whole_rules_and_bakeries) rfl rfl (fun w h Y => PySem.W.kIn_of Y) ?F
  case F =>
    intro w mg fa h KX G hmg
    refine' Sw.all_mk KX G hmg ?g_Course ?pg_Course ?hd_Course ?po_Course ?sa_Course ?mk_Course ?kc_Course ?g_Bakery ?pg_Bakery ?hd_Bakery ?po_Bakery ?sa_Bakery ?mk_Bakery ?kc_Bakery ?g_Rule ?pg_Rule ?hd_Rule ?po_Rule ?sa_Rule ?mk_Rule ?kc_Rule ?g_RefillRule ?pg_RefillRule ?hd_RefillRule ?po_RefillRule ?sa_RefillRule ?mk_RefillRule ?kc_RefillRule ?g_SoldRule ?pg_SoldRule ?hd_SoldRule ?po_SoldRule ?sa_SoldRule ?mk_SoldRule ?kc_SoldRule ?na_Course__bakes ?na_Course__demands ?na_Course__keepable ?na_Course__gain ?na_Course__first_end ?na_Course__full_end ?na_Course__first_misses ?na_Course__later_misses ?na_Bakery__bakes ?na_Bakery__demands ?na_Bakery__life ?na_Bakery_course ?na_Bakery__settled_day ?na_Bakery__long_run ?rd_Bakery ?gt_Bakery ?cv_Bakery_MAX_DAYS ?cv_Bakery_MAX_LIFE ?na_Rule__amount ?na_RefillRule__goal ?na_SoldRule__more ?na_SoldRule__amount ?g_MOST_LOAVES ?g_LAST_DAY ?g_MOST_RULE_DAYS ?b_divmod ?b_enumerate ?b_int ?b_len ?b_max ?b_min ?b_range ?b_sum ?b_super ?b_tuple ?b_zip ?zu_any ?zu_top ?a_count_keepable ?l_count_keepable ?q_count_keepable ?k_count_keepable ?a_sum_repeated ?l_sum_repeated ?q_sum_repeated ?k_sum_repeated ?a_Course___init__ ?i_Course___init__ ?l_Course___init__ ?q_Course___init__ ?k_Course___init__ ?a_Course_stock_at ?i_Course_stock_at ?l_Course_stock_at ?q_Course_stock_at ?k_Course_stock_at ?a_Course_sales_on ?i_Course_sales_on ?l_Course_sales_on ?q_Course_sales_on ?k_Course_sales_on ?a_Course_sales_before ?i_Course_sales_before ?l_Course_sales_before ?q_Course_sales_before ?k_Course_sales_before ?a_Course_find_settled ?i_Course_find_settled ?l_Course_find_settled ?q_Course_find_settled ?k_Course_find_settled ?a_Course_sum_settled_round ?i_Course_sum_settled_round ?l_Course_sum_settled_round ?q_Course_sum_settled_round ?k_Course_sum_settled_round ?a_Course__play_round ?i_Course__play_round ?l_Course__play_round ?q_Course__play_round ?k_Course__play_round ?a_Course__stocks_in ?i_Course__stocks_in ?l_Course__stocks_in ?q_Course__stocks_in ?k_Course__stocks_in ?a_Course__misses_in ?i_Course__misses_in ?l_Course__misses_in ?q_Course__misses_in ?k_Course__misses_in ?a_Course__count_growing ?i_Course__count_growing ?l_Course__count_growing ?q_Course__count_growing ?k_Course__count_growing ?a_check_number ?l_check_number ?q_check_number ?k_check_number ?a_check_amounts ?l_check_amounts ?q_check_amounts ?k_check_amounts ?a_check_life ?l_check_life ?q_check_life ?k_check_life ?a_check_bakery ?l_check_bakery ?q_check_bakery ?k_check_bakery ?a_Bakery___init__ ?i_Bakery___init__ ?l_Bakery___init__ ?q_Bakery___init__ ?k_Bakery___init__ ?a_Bakery_sold ?i_Bakery_sold ?l_Bakery_sold ?q_Bakery_sold ?k_Bakery_sold ?a_Bakery_missed ?i_Bakery_missed ?l_Bakery_missed ?q_Bakery_missed ?k_Bakery_missed ?a_Bakery_thrown ?i_Bakery_thrown ?l_Bakery_thrown ?q_Bakery_thrown ?k_Bakery_thrown ?a_Bakery_totals ?i_Bakery_totals ?l_Bakery_totals ?q_Bakery_totals ?k_Bakery_totals ?a_check_part ?l_check_part ?q_check_part ?k_check_part ?a_Rule___init__ ?i_Rule___init__ ?l_Rule___init__ ?q_Rule___init__ ?k_Rule___init__ ?a_Rule_count_baked ?i_Rule_count_baked ?l_Rule_count_baked ?q_Rule_count_baked ?k_Rule_count_baked ?a_RefillRule___init__ ?i_RefillRule___init__ ?l_RefillRule___init__ ?q_RefillRule___init__ ?k_RefillRule___init__ ?a_RefillRule_count_baked ?i_RefillRule_count_baked ?l_RefillRule_count_baked ?q_RefillRule_count_baked ?k_RefillRule_count_baked ?a_SoldRule___init__ ?i_SoldRule___init__ ?l_SoldRule___init__ ?q_SoldRule___init__ ?lk_SoldRule___init__ ?vf_SoldRule___init__ ?fi_SoldRule___init__ ?ce_SoldRule___init__ ?sp_SoldRule___init__ ?sy_SoldRule___init__ ?sf_SoldRule___init__ ?sb_SoldRule___init__ ?sc_SoldRule ?a_SoldRule_count_baked ?i_SoldRule_count_baked ?l_SoldRule_count_baked ?q_SoldRule_count_baked ?k_SoldRule_count_baked ?a_run ?l_run ?q_run ?k_run ?a_outcome ?l_outcome ?q_outcome ?k_outcome ?a__law_start ?l__law_start ?q__law_start ?k__law_start ?a__law_drawn ?l__law_drawn ?q__law_drawn ?k__law_drawn ?a__law_amounts ?l__law_amounts ?q__law_amounts ?k__law_amounts ?a_law ?l_law ?q_law ?k_law
    (case g_Course => k_is)
    (case pg_Course => k_is)
    (case hd_Course => k_is)
    (case po_Course => k_is)
    (case sa_Course => k_is)
    (case mk_Course => k_is)
    (case kc_Course => k_is)
    (case g_Bakery => k_is)
    (case pg_Bakery => k_is)
    (case hd_Bakery => k_is)
    (case po_Bakery => k_is)
    (case sa_Bakery => k_is)
    (case mk_Bakery => k_is)
    (case kc_Bakery => k_is)
    (case g_Rule => k_is)
    (case pg_Rule => k_is)
    (case hd_Rule => k_is)
    (case po_Rule => k_is)
    (case sa_Rule => k_is)
    (case mk_Rule => k_is)
    (case kc_Rule => k_is)
    (case g_RefillRule => k_is)
    (case pg_RefillRule => k_is)
    (case hd_RefillRule => k_is)
    (case po_RefillRule => k_is)
    (case sa_RefillRule => k_is)
    (case mk_RefillRule => k_is)
    (case kc_RefillRule => k_is)
    (case g_SoldRule => k_is)
    (case pg_SoldRule => k_is)
    (case hd_SoldRule => k_is)
    (case po_SoldRule => k_is)
    (case sa_SoldRule => k_is)
    (case mk_SoldRule => k_is)
    (case kc_SoldRule => k_is)
    (case na_Course__bakes => k_is)
    (case na_Course__demands => k_is)
    (case na_Course__keepable => k_is)
    (case na_Course__gain => k_is)
    (case na_Course__first_end => k_is)
    (case na_Course__full_end => k_is)
    (case na_Course__first_misses => k_is)
    (case na_Course__later_misses => k_is)
    (case na_Bakery__bakes => k_is)
    (case na_Bakery__demands => k_is)
    (case na_Bakery__life => k_is)
    (case na_Bakery_course => k_is)
    (case na_Bakery__settled_day => k_is)
    (case na_Bakery__long_run => k_is)
    (case rd_Bakery => k_is)
    (case gt_Bakery => k_is)
    (case cv_Bakery_MAX_DAYS => k_is)
    (case cv_Bakery_MAX_LIFE => k_is)
    (case na_Rule__amount => k_is)
    (case na_RefillRule__goal => k_is)
    (case na_SoldRule__more => k_is)
    (case na_SoldRule__amount => k_is)
    (case g_MOST_LOAVES => k_is)
    (case g_LAST_DAY => k_is)
    (case g_MOST_RULE_DAYS => k_is)
    (case b_divmod => k_is)
    (case b_enumerate => k_is)
    (case b_int => k_is)
    (case b_len => k_is)
    (case b_max => k_is)
    (case b_min => k_is)
    (case b_range => k_is)
    (case b_sum => k_is)
    (case b_super => k_is)
    (case b_tuple => k_is)
    (case b_zip => k_is)
    (case zu_any => k_is)
    (case zu_top => kernel_rfl)
    (case a_count_keepable => k_is)
    (case l_count_keepable => k_is)
    (case q_count_keepable => k_is)
    (case k_count_keepable => k_is)
    (case a_sum_repeated => k_is)
    (case l_sum_repeated => k_is)
    (case q_sum_repeated => k_is)
    (case k_sum_repeated => k_is)
    (case a_Course___init__ => k_is)
    (case i_Course___init__ => k_is)
    (case l_Course___init__ => k_is)
    (case q_Course___init__ => k_is)
    (case k_Course___init__ => k_is)
    (case a_Course_stock_at => k_is)
    (case i_Course_stock_at => k_is)
    (case l_Course_stock_at => k_is)
    (case q_Course_stock_at => k_is)
    (case k_Course_stock_at => k_is)
    (case a_Course_sales_on => k_is)
    (case i_Course_sales_on => k_is)
    (case l_Course_sales_on => k_is)
    (case q_Course_sales_on => k_is)
    (case k_Course_sales_on => k_is)
    (case a_Course_sales_before => k_is)
    (case i_Course_sales_before => k_is)
    (case l_Course_sales_before => k_is)
    (case q_Course_sales_before => k_is)
    (case k_Course_sales_before => k_is)
    (case a_Course_find_settled => k_is)
    (case i_Course_find_settled => k_is)
    (case l_Course_find_settled => k_is)
    (case q_Course_find_settled => k_is)
    (case k_Course_find_settled => k_is)
    (case a_Course_sum_settled_round => k_is)
    (case i_Course_sum_settled_round => k_is)
    (case l_Course_sum_settled_round => k_is)
    (case q_Course_sum_settled_round => k_is)
    (case k_Course_sum_settled_round => k_is)
    (case a_Course__play_round => k_is)
    (case i_Course__play_round => k_is)
    (case l_Course__play_round => k_is)
    (case q_Course__play_round => k_is)
    (case k_Course__play_round => k_is)
    (case a_Course__stocks_in => k_is)
    (case i_Course__stocks_in => k_is)
    (case l_Course__stocks_in => k_is)
    (case q_Course__stocks_in => k_is)
    (case k_Course__stocks_in => k_is)
    (case a_Course__misses_in => k_is)
    (case i_Course__misses_in => k_is)
    (case l_Course__misses_in => k_is)
    (case q_Course__misses_in => k_is)
    (case k_Course__misses_in => k_is)
    (case a_Course__count_growing => k_is)
    (case i_Course__count_growing => k_is)
    (case l_Course__count_growing => k_is)
    (case q_Course__count_growing => k_is)
    (case k_Course__count_growing => k_is)
    (case a_check_number => k_is)
    (case l_check_number => k_is)
    (case q_check_number => k_is)
    (case k_check_number => k_is)
    (case a_check_amounts => k_is)
    (case l_check_amounts => k_is)
    (case q_check_amounts => k_is)
    (case k_check_amounts => k_is)
    (case a_check_life => k_is)
    (case l_check_life => k_is)
    (case q_check_life => k_is)
    (case k_check_life => k_is)
    (case a_check_bakery => k_is)
    (case l_check_bakery => k_is)
    (case q_check_bakery => k_is)
    (case k_check_bakery => k_is)
    (case a_Bakery___init__ => k_is)
    (case i_Bakery___init__ => k_is)
    (case l_Bakery___init__ => k_is)
    (case q_Bakery___init__ => k_is)
    (case k_Bakery___init__ => k_is)
    (case a_Bakery_sold => k_is)
    (case i_Bakery_sold => k_is)
    (case l_Bakery_sold => k_is)
    (case q_Bakery_sold => k_is)
    (case k_Bakery_sold => k_is)
    (case a_Bakery_missed => k_is)
    (case i_Bakery_missed => k_is)
    (case l_Bakery_missed => k_is)
    (case q_Bakery_missed => k_is)
    (case k_Bakery_missed => k_is)
    (case a_Bakery_thrown => k_is)
    (case i_Bakery_thrown => k_is)
    (case l_Bakery_thrown => k_is)
    (case q_Bakery_thrown => k_is)
    (case k_Bakery_thrown => k_is)
    (case a_Bakery_totals => k_is)
    (case i_Bakery_totals => k_is)
    (case l_Bakery_totals => k_is)
    (case q_Bakery_totals => k_is)
    (case k_Bakery_totals => k_is)
    (case a_check_part => k_is)
    (case l_check_part => k_is)
    (case q_check_part => k_is)
    (case k_check_part => k_is)
    (case a_Rule___init__ => k_is)
    (case i_Rule___init__ => k_is)
    (case l_Rule___init__ => k_is)
    (case q_Rule___init__ => k_is)
    (case k_Rule___init__ => k_is)
    (case a_Rule_count_baked => k_is)
    (case i_Rule_count_baked => k_is)
    (case l_Rule_count_baked => k_is)
    (case q_Rule_count_baked => k_is)
    (case k_Rule_count_baked => k_is)
    (case a_RefillRule___init__ => k_is)
    (case i_RefillRule___init__ => k_is)
    (case l_RefillRule___init__ => k_is)
    (case q_RefillRule___init__ => k_is)
    (case k_RefillRule___init__ => k_is)
    (case a_RefillRule_count_baked => k_is)
    (case i_RefillRule_count_baked => k_is)
    (case l_RefillRule_count_baked => k_is)
    (case q_RefillRule_count_baked => k_is)
    (case k_RefillRule_count_baked => k_is)
    (case a_SoldRule___init__ => k_is)
    (case i_SoldRule___init__ => k_is)
    (case l_SoldRule___init__ => k_is)
    (case q_SoldRule___init__ => k_is)
    (case lk_SoldRule___init__ => k_is)
    (case vf_SoldRule___init__ => rfl)
    (case fi_SoldRule___init__ => kernel_rfl)
    (case ce_SoldRule___init__ => k_is)
    (case sp_SoldRule___init__ => kernel_rfl)
    (case sy_SoldRule___init__ => k_is)
    (case sf_SoldRule___init__ => k_is)
    (case sb_SoldRule___init__ => k_is)
    (case sc_SoldRule => k_is)
    (case a_SoldRule_count_baked => k_is)
    (case i_SoldRule_count_baked => k_is)
    (case l_SoldRule_count_baked => k_is)
    (case q_SoldRule_count_baked => k_is)
    (case k_SoldRule_count_baked => k_is)
    (case a_run => k_is)
    (case l_run => k_is)
    (case q_run => k_is)
    (case k_run => k_is)
    (case a_outcome => k_is)
    (case l_outcome => k_is)
    (case q_outcome => k_is)
    (case k_outcome => k_is)
    (case a__law_start => k_is)
    (case l__law_start => k_is)
    (case q__law_start => k_is)
    (case k__law_start => k_is)
    (case a__law_drawn => k_is)
    (case l__law_drawn => k_is)
    (case q__law_drawn => k_is)
    (case k__law_drawn => k_is)
    (case a__law_amounts => k_is)
    (case l__law_amounts => k_is)
    (case q__law_amounts => k_is)
    (case k__law_amounts => k_is)
    (case a_law => k_is)
    (case l_law => k_is)
    (case q_law => k_is)
    (case k_law => k_is)
